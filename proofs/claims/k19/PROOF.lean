import PyProof.Rows.All
import Wide.All
import OpenK.AllK
import Wide.FinOn
import HandS.ForMost
import HandS.Walk
import HandS.Evl
import HandS.Flow
import HandS.IsInst
import HandS.SortInts
import KE.DataEq
import HandS.ForExc
import HandS.Defaults
import HandS.Head0
import HandS.Head1
import HandS.Head2
import HandS.HeadEnd
import HandS.HeadHook1
import HandS.HeadHook2
import HandS.HeadHook3
import HandS.HeadHook4
import HandS.More
import HandS.Style
import KE.SortData
import HandS.Strs
import HandS.Comp
import HandS.SetBool
import HandS.Dict
import HandS.TupLen
import HandS.WordsDict
import HandS.Iter
import HandS.Star
import HandS.Text
import HandS.Codes
import PyProof.StrOps2
import HandS.StrMore
import PyProof.Rows.StrCountLaw
import PyProof.Rows.StrCut
import PyProof.StrLawsFrom
import PyProof.Draws
import PyProof.EnumMake
import HandS.GenList
import KE.KDictCopyH
import HandS.Wide
import HandS.DictComp
import HandS.Flt
import KE.LtData
import KE.KDictZip
import HandS.MakeKwOnly
import HandS.OwnIter
import HandS.IterNext
import HandS.Property
import HandS.Conv
import PyProof.StrLawsLast
import PySem.Challenge.RW_quirekiln_k19_caret_and_back
set_option Elab.async false
set_option linter.all false
set_option maxRecDepth 100000
set_option maxHeartbeats 2000000
/-! The data layer: what a piece of a def does, told by data (PyData) and by a small symbolic store, over the readings of HandS. -/
namespace DL
open PySem L2

/-! ### data at an address -/
def SqK (K : PySem.W.Frag) (a : Addr) (xs : List V) : Prop :=
  ∃ (o : Obj) (its : Array Value) (n : Nat), K.lookup a = some o ∧ o.cls = .type "list" ∧ o.dict = none ∧ o.data = .seq its n ∧ its.size ≤ sizeLine ∧ Vals xs its.toList
/-- a key as data -/
def kdat : Key → PyData
  | .inl i => .int i
  | .inr x => .str x
def tdat (ks : List Key) : PyData := .tuple (ks.map kdat)
mutual
/-- v stands for the data d at the heap H; no list and no dict of it lies at an address of N -/
inductive Dn (K : PySem.W.Frag) (N : Addr → Prop) (H : Hp) : V → PyData → Prop
  | non : Dn K N H .non .none
  | bl (b : Bool) : Dn K N H (.bl b) (.bool b)
  | int (i : Int) : Dn K N H (.int i) (.int i)
  | str (x : Str) : Dn K N H (.str x) (.str x)
  | lst {a : Addr} {xs : List V} {ds : List PyData} : Rd H a (.lst xs) → ¬ N a → DnAll K N H xs ds → Dn K N H (.ref a) (.list ds)
  | lstK {a : Addr} {xs : List V} {ds : List PyData} : SqK K a xs → DnAll K N H xs ds → Dn K N H (.ref a) (.list ds)
  | tup {a : Addr} {xs : List V} {ds : List PyData} : SqT K H a xs → DnAll K N H xs ds → Dn K N H (.ref a) (.tuple ds)
  | dkk {a : Addr} {ws : List (Key × V)} {kvs : List (PyData × PyData)} : Rd H a (.dK ws) → ¬ N a → DnPs K N H (ws.map fun p => (kdat p.1, p.2)) kvs → Dn K N H (.ref a) (.dict kvs)
  | dkt {a : Addr} {ws : List (List Key × V)} {kvs : List (PyData × PyData)} : H a = some (.dT ws) → ¬ N a → DnPs K N H ((.none, .non) :: ws.map fun p => (tdat p.1, p.2)) kvs → Dn K N H (.ref a) (.dict kvs)
inductive DnAll (K : PySem.W.Frag) (N : Addr → Prop) (H : Hp) : List V → List PyData → Prop
  | nil : DnAll K N H [] []
  | cons {v : V} {vs : List V} {d : PyData} {ds : List PyData} : Dn K N H v d → DnAll K N H vs ds → DnAll K N H (v :: vs) (d :: ds)
inductive DnPs (K : PySem.W.Frag) (N : Addr → Prop) (H : Hp) : List (PyData × V) → List (PyData × PyData) → Prop
  | nil : DnPs K N H [] []
  | cons {k : PyData} {v : V} {vs : List (PyData × V)} {d : PyData} {ds : List (PyData × PyData)} : Dn K N H v d → DnPs K N H vs ds → DnPs K N H ((k, v) :: vs) ((k, d) :: ds)
end

section
variable {K : PySem.W.Frag} {N N' : Addr → Prop} {H H' : Hp}
mutual
theorem Dn.go (hl : ∀ a u, Rd H a u → ¬ N a → Rd H' a u ∧ ¬ N' a) (hw : ∀ a u, H a = some u → ¬ N a → H' a = some u) (ht : ∀ a xs, SqT K H a xs → SqT K H' a xs) : ∀ (d : PyData) (v : V), Dn K N H v d → Dn K N' H' v d
  | .none, _, h => by cases h; exact .non
  | .bool b, _, h => by cases h; exact .bl b
  | .int i, _, h => by cases h; exact .int i
  | .str x, _, h => by cases h; exact .str x
  | .list ds, _, h => by
    cases h with
    | lst r n a => exact .lst (hl _ _ r n).1 (hl _ _ r n).2 (DnAll.go hl hw ht ds _ a)
    | lstK r a => exact .lstK r (DnAll.go hl hw ht ds _ a)
  | .tuple ds, _, h => by
    cases h with
    | tup r a => exact .tup (ht _ _ r) (DnAll.go hl hw ht ds _ a)
  | .dict kvs, _, h => by
    cases h with
    | dkk r n a => exact .dkk (hl _ _ r n).1 (hl _ _ r n).2 (DnPs.go hl hw ht kvs _ a)
    | dkt r n a => exact .dkt (hw _ _ r n) (hl _ _ (Or.inl r) n).2 (DnPs.go hl hw ht kvs _ a)
theorem DnAll.go (hl : ∀ a u, Rd H a u → ¬ N a → Rd H' a u ∧ ¬ N' a) (hw : ∀ a u, H a = some u → ¬ N a → H' a = some u) (ht : ∀ a xs, SqT K H a xs → SqT K H' a xs) : ∀ (ds : List PyData) (vs : List V), DnAll K N H vs ds → DnAll K N' H' vs ds
  | [], _, h => by cases h; exact .nil
  | d :: ds, _, h => by
    cases h with
    | cons a b => exact .cons (Dn.go hl hw ht d _ a) (DnAll.go hl hw ht ds _ b)
theorem DnPs.go (hl : ∀ a u, Rd H a u → ¬ N a → Rd H' a u ∧ ¬ N' a) (hw : ∀ a u, H a = some u → ¬ N a → H' a = some u) (ht : ∀ a xs, SqT K H a xs → SqT K H' a xs) : ∀ (ds : List (PyData × PyData)) (vs : List (PyData × V)), DnPs K N H vs ds → DnPs K N' H' vs ds
  | [], _, h => by cases h; exact .nil
  | (k, d) :: ds, _, h => by
    cases h with
    | cons a b => exact .cons (Dn.go hl hw ht d _ a) (DnPs.go hl hw ht ds _ b)
end
end
mutual
/-- no list in it -/
def noList : PyData → Bool
  | .list _ => false
  | .tuple ds => noLists ds
  | .dict _ => false
  | _ => true
def noLists : List PyData → Bool
  | [] => true
  | d :: ds => noList d && noLists ds
end
section
variable {K : PySem.W.Frag} {N N' : Addr → Prop} {H H' : Hp}
mutual
theorem Dn.goF (ht : ∀ a xs, SqT K H a xs → SqT K H' a xs) : ∀ (d : PyData) (v : V), noList d = true → Dn K N H v d → Dn K N' H' v d
  | .none, _, _, h => by cases h; exact .non
  | .bool b, _, _, h => by cases h; exact .bl b
  | .int i, _, _, h => by cases h; exact .int i
  | .str x, _, _, h => by cases h; exact .str x
  | .list ds, _, q, _ => by simp [noList] at q
  | .tuple ds, _, q, h => by
    cases h with
    | tup r a => exact .tup (ht _ _ r) (DnAll.goF ht ds _ (by simpa [noList] using q) a)
  | .dict _, _, q, _ => by simp [noList] at q
theorem DnAll.goF (ht : ∀ a xs, SqT K H a xs → SqT K H' a xs) : ∀ (ds : List PyData) (vs : List V), noLists ds = true → DnAll K N H vs ds → DnAll K N' H' vs ds
  | [], _, _, h => by cases h; exact .nil
  | d :: ds, _, q, h => by
    cases h with
    | cons a b =>
      have q' : noList d = true ∧ noLists ds = true := by simpa [noLists] using q
      exact .cons (Dn.goF ht d _ q'.1 a) (DnAll.goF ht ds _ q'.2 b)
end
mutual
theorem Dn.dp : ∀ (d : PyData) (v : V), d.plain = true → Dn K N H v d → Dp K H v d
  | .none, _, _, h => by cases h; exact .non
  | .bool b, _, _, h => by cases h; exact .bl b
  | .int i, _, _, h => by cases h; exact .int i
  | .str x, _, _, h => by cases h; exact .str x
  | .list ds, _, q, h => by
    cases h with
    | lst r n a => exact .lst (Or.inl r) (DnAll.dp ds _ (by simpa [PyData.plain] using q) a)
    | lstK r a => exact .lst (Or.inr r) (DnAll.dp ds _ (by simpa [PyData.plain] using q) a)
  | .tuple ds, _, q, h => by
    cases h with
    | tup r a => exact .tup r (DnAll.dp ds _ (by simpa [PyData.plain] using q) a)
  | .dict _, _, q, _ => by simp [PyData.plain] at q
theorem DnAll.dp : ∀ (ds : List PyData) (vs : List V), PyData.plainAll ds = true → DnAll K N H vs ds → DpAll K H vs ds
  | [], _, _, h => by cases h; exact .nil
  | d :: ds, _, q, h => by
    cases h with
    | cons a b =>
      have q' : d.plain = true ∧ PyData.plainAll ds = true := by simpa [PyData.plainAll] using q
      exact .cons (Dn.dp d _ q'.1 a) (DnAll.dp ds _ q'.2 b)
end
theorem DnAll.length : ∀ {vs : List V} {ds : List PyData}, DnAll K N H vs ds → vs.length = ds.length
  | _, _, .nil => rfl
  | _, _, .cons _ t => congrArg (· + 1) (DnAll.length t)
theorem DnAll.get : ∀ {vs : List V} {ds : List PyData} {i : Nat} {d : PyData}, DnAll K N H vs ds → ds[i]? = some d → ∃ v, vs[i]? = some v ∧ Dn K N H v d
  | _, _, _, _, .nil, e => by simp at e
  | _, _, 0, _, .cons r _, e => by simp at e; subst e; exact ⟨_, rfl, r⟩
  | _, _, i + 1, _, .cons _ t, e => by
    obtain ⟨v, h1, h2⟩ := DnAll.get (i := i) t (by simpa using e)
    exact ⟨v, by simpa using h1, h2⟩
theorem DnAll.getV : ∀ {vs : List V} {ds : List PyData} {i : Nat} {v : V}, DnAll K N H vs ds → vs[i]? = some v → ∃ d, ds[i]? = some d ∧ Dn K N H v d
  | _, _, _, _, .nil, e => by simp at e
  | _, _, 0, _, .cons r _, e => by simp at e; subst e; exact ⟨_, rfl, r⟩
  | _, _, i + 1, _, .cons _ t, e => by
    obtain ⟨v, h1, h2⟩ := DnAll.getV (i := i) t (by simpa using e)
    exact ⟨v, by simpa using h1, h2⟩
theorem DnAll.append : ∀ {vs ws : List V} {ds es : List PyData}, DnAll K N H vs ds → DnAll K N H ws es → DnAll K N H (vs ++ ws) (ds ++ es)
  | _, _, _, _, .nil, s => s
  | _, _, _, _, .cons r t, s => .cons r (DnAll.append t s)
theorem DnAll.take : ∀ {vs : List V} {ds : List PyData} (n : Nat), DnAll K N H vs ds → DnAll K N H (vs.take n) (ds.take n)
  | _, _, 0, _ => .nil
  | _, _, _ + 1, .nil => .nil
  | _, _, n + 1, .cons r t => .cons r (DnAll.take n t)
theorem DnAll.drop : ∀ {vs : List V} {ds : List PyData} (n : Nat), DnAll K N H vs ds → DnAll K N H (vs.drop n) (ds.drop n)
  | _, _, 0, r => r
  | _, _, _ + 1, .nil => .nil
  | _, _, n + 1, .cons _ t => DnAll.drop n t
theorem DnAll.reverse : ∀ {vs : List V} {ds : List PyData}, DnAll K N H vs ds → DnAll K N H vs.reverse ds.reverse
  | _, _, .nil => .nil
  | _, _, .cons r t => by rw [List.reverse_cons, List.reverse_cons]; exact DnAll.append (DnAll.reverse t) (.cons r .nil)
theorem DnAll.ints : ∀ {vs : List V} {ns : List Int}, DnAll K N H vs (ns.map PyData.int) → vs = ns.map V.int
  | _, [], h => by cases h; rfl
  | _, n :: ns, h => by
    cases h with
    | cons a b => cases a; rw [DnAll.ints b]; rfl
theorem DnAll.bools : ∀ {vs : List V} {ns : List Bool}, DnAll K N H vs (ns.map PyData.bool) → vs = ns.map V.bl
  | _, [], h => by cases h; rfl
  | _, n :: ns, h => by
    cases h with
    | cons a b => cases a; rw [DnAll.bools b]; rfl
end

/-! ### heaps -/
open Evl (Ex Ex.refl Ex.trans Ex.new)
end DL
theorem Evl.Ex.rd {H H' : L2.Hp} {a : PySem.Addr} {u : L2.HO} (e : Evl.Ex H H') (h : L2.Rd H a u) : L2.Rd H' a u := Evl.ex_rd e h
theorem Evl.Ex.sqt {K : PySem.W.Frag} {H H' : L2.Hp} {a : PySem.Addr} {xs : List L2.V} (e : Evl.Ex H H') (h : L2.SqT K H a xs) : L2.SqT K H' a xs := Evl.ex_t e h
theorem Evl.Ex.sql {K : PySem.W.Frag} {H H' : L2.Hp} {a : PySem.Addr} {xs : List L2.V} (e : Evl.Ex H H') (h : L2.SqL K H a xs) : L2.SqL K H' a xs := Evl.ex_l e h
theorem Evl.Ex.free {H H' : L2.Hp} {p : PySem.Addr} (e : Evl.Ex H H') (h : H' p = none) : H p = none := Evl.fresh_back e h
theorem Evl.Ex.some {H H' : L2.Hp} {p : PySem.Addr} (e : Evl.Ex H H') (h : H p ≠ none) : H' p ≠ none := fun z => h (e.free z)
namespace DL
open PySem L2
open Evl (Ex Ex.refl Ex.trans Ex.new)
theorem Dn.ext {K : PySem.W.Frag} {N : Addr → Prop} {H H' : Hp} {v : V} {d : PyData} (e : Ex H H') (h : Dn K N H v d) : Dn K N H' v d :=
  Dn.go (fun _ _ r n => ⟨e.rd r, n⟩) (fun a u r _ => e a u r) (fun _ _ r => e.sqt r) d v h
theorem DnAll.ext {K : PySem.W.Frag} {N : Addr → Prop} {H H' : Hp} {v : List V} {d : List PyData} (e : Ex H H') (h : DnAll K N H v d) : DnAll K N H' v d :=
  DnAll.go (fun _ _ r n => ⟨e.rd r, n⟩) (fun a u r _ => e a u r) (fun _ _ r => e.sqt r) d v h
theorem Dn.sub {K : PySem.W.Frag} {N N' : Addr → Prop} {H : Hp} {v : V} {d : PyData} (e : ∀ a, N' a → N a) (h : Dn K N H v d) : Dn K N' H v d :=
  Dn.go (fun _ _ r n => ⟨r, fun z => n (e _ z)⟩) (fun _ _ r _ => r) (fun _ _ r => r) d v h
theorem DnAll.sub {K : PySem.W.Frag} {N N' : Addr → Prop} {H : Hp} {v : List V} {d : List PyData} (e : ∀ a, N' a → N a) (h : DnAll K N H v d) : DnAll K N' H v d :=
  DnAll.go (fun _ _ r n => ⟨r, fun z => n (e _ z)⟩) (fun _ _ r _ => r) (fun _ _ r => r) d v h
theorem Rd.some {H : Hp} {a : Addr} {u : HO} (h : Rd H a u) : H a ≠ none := by
  rcases h with h | ⟨o, h⟩
  · rw [h]; exact fun z => nomatch z
  · rw [h]; exact fun z => nomatch z
/-- an address that is free is not met -/
theorem Dn.add {K : PySem.W.Frag} {N : Addr → Prop} {H : Hp} {v : V} {d : PyData} {p : Addr} (hp : H p = none) (h : Dn K N H v d) : Dn K (fun a => N a ∨ a = p) H v d :=
  Dn.go (fun a _ r n => ⟨r, fun z => z.elim n fun q => by subst q; exact Rd.some r hp⟩) (fun _ _ r _ => r) (fun _ _ r => r) d v h
theorem DnAll.add {K : PySem.W.Frag} {N : Addr → Prop} {H : Hp} {v : List V} {d : List PyData} {p : Addr} (hp : H p = none) (h : DnAll K N H v d) : DnAll K (fun a => N a ∨ a = p) H v d :=
  DnAll.go (fun a _ r n => ⟨r, fun z => z.elim n fun q => by subst q; exact Rd.some r hp⟩) (fun _ _ r _ => r) (fun _ _ r => r) d v h
/-- what is no tuple and is not frozen -/
def Wr : HO → Bool
  | .tup _ => false
  | .frz _ _ => false
  | _ => true
theorem mut_t {K : PySem.W.Frag} {H : Hp} {p : Addr} {o o' : HO} (hp : H p = some o) (hw : Wr o = true) : ∀ a xs, SqT K H a xs → SqT K (upd H p o') a xs := by
  intro a xs h
  rcases h with (h | ⟨u, h⟩) | h
  · refine Or.inl (Or.inl ?_)
    rw [upd_ne]
    · exact h
    · intro z; subst z; rw [hp] at h; cases h; cases hw
  · refine Or.inl (Or.inr ⟨u, ?_⟩)
    rw [upd_ne]
    · exact h
    · intro z; subst z; rw [hp] at h; cases h; cases hw
  · exact Or.inr h
theorem Dn.mut {K : PySem.W.Frag} {N : Addr → Prop} {H : Hp} {v : V} {d : PyData} {p : Addr} {o o' : HO} (hp : H p = some o) (hw : Wr o = true) (hn : N p) (h : Dn K N H v d) : Dn K N (upd H p o') v d := by
  refine Dn.go (fun a xs r n => ⟨?_, n⟩) (fun a u r n => by rw [upd_ne (show a ≠ p from fun z => n (z ▸ hn))]; exact r) (mut_t hp hw) d v h
  have ne : a ≠ p := fun z => n (z ▸ hn)
  rcases r with r | ⟨u, r⟩
  · exact Or.inl (by rw [upd_ne ne]; exact r)
  · exact Or.inr ⟨u, by rw [upd_ne ne]; exact r⟩
theorem DnAll.mut {K : PySem.W.Frag} {N : Addr → Prop} {H : Hp} {v : List V} {d : List PyData} {p : Addr} {o o' : HO} (hp : H p = some o) (hw : Wr o = true) (hn : N p) (h : DnAll K N H v d) : DnAll K N (upd H p o') v d := by
  refine DnAll.go (fun a xs r n => ⟨?_, n⟩) (fun a u r n => by rw [upd_ne (show a ≠ p from fun z => n (z ▸ hn))]; exact r) (mut_t hp hw) d v h
  have ne : a ≠ p := fun z => n (z ▸ hn)
  rcases r with r | ⟨u, r⟩
  · exact Or.inl (by rw [upd_ne ne]; exact r)
  · exact Or.inr ⟨u, by rw [upd_ne ne]; exact r⟩

/-! ### the symbolic store -/
/-- an instance that is only read: its fields stand for the data m -/
def ObOk (K : PySem.W.Frag) (N : Addr → Prop) (H : Hp) (v : V) (C : Addr) (m : List (Str × PyData)) : Prop := ∃ (a dx : Addr) (fs : List (Str × V)), v = .ref a ∧ H a = some (.ins C dx fs) ∧ ¬ N a ∧ Paired (fun (p : Str × V) (q : Str × PyData) => p.1 = q.1 ∧ Dn K N H p.2 q.2) fs m
/-- a value: data, or the k-th object of the store -/
inductive SV where
  | i (d : PyData)
  | r (k : Nat)
  | t (u : HO)
  | ob (C : Addr) (m : List (Str × PyData))
/-- an object of the store; x: forgotten -/
inductive SO where
  | x
  | lst (xs : List SV)
  | dK (kvs : List (Key × SV))
  | dT (kvs : List (List Key × SV))
  | ho (f : Addr → HO)
  | nums
  | stt (k : Nat)
  | ob (C : Addr) (fs : List (Str × SV))
def SO.live : SO → Bool
  | .x => false
  | _ => true
abbrev Sy := List (Option SV)
def SvOk (K : PySem.W.Frag) (N : Addr → Prop) (ad : Nat → Addr) (n : Nat) (H : Hp) (v : V) : SV → Prop
  | .i d => Dn K N H v d
  | .t u => ∃ b, v = .ref b ∧ H b = some u ∧ Wr u = false
  | .ob C m => ObOk K N H v C m
  | .r k => v = .ref (ad k) ∧ k < n
def SoOk (K : PySem.W.Frag) (N : Addr → Prop) (ad : Nat → Addr) (n : Nat) (H : Hp) (l : Addr) : SO → Prop
  | .x => True
  | .lst xs => ∃ vs, H l = some (.lst vs) ∧ Paired (SvOk K N ad n H) vs xs
  | .dK kvs => ∃ ws, H l = some (.dK ws) ∧ Paired (fun (p : Key × V) (q : Key × SV) => p.1 = q.1 ∧ SvOk K N ad n H p.2 q.2) ws kvs
  | .dT kvs => ∃ ws, H l = some (.dT ws) ∧ Paired (fun (p : List Key × V) (q : List Key × SV) => p.1 = q.1 ∧ SvOk K N ad n H p.2 q.2) ws kvs
  | .ho f => H l = some (f l) ∧ Wr (f l) = true
  | .nums => ∃ ns : List Int, H l = some (.lst (ns.map V.int))
  | .stt k => ∃ (v : V) (a m : Int), H l = some (.lst [v, .int a, .int m]) ∧ SvOk K N ad n H v (.r k)
  | .ob C fs => ∃ (dx : Addr) (vs : List (Str × V)), H l = some (.ins C dx vs) ∧ Paired (fun (p : Str × V) (q : Str × SV) => p.1 = q.1 ∧ SvOk K N ad n H p.2 q.2) vs fs

structure Cn where
  K : PySem.W.Frag
  H0 : Hp
  N0 : Addr → Prop
  M : Addr → Prop := fun _ => False
  fr : List (V × SV) := []
  lo : Nat := 0
def Lv (os : List SO) (k : Nat) : Prop := ∃ o, os[k]? = some o ∧ o.live = true
def Nof (c : Cn) (ad : Nat → Addr) (os : List SO) : Addr → Prop := fun a => c.N0 a ∨ ∃ k, Lv os k ∧ a = ad k
structure Ok (c : Cn) (ad : Nat → Addr) (env : Sy) (os : List SO) (σ : St) (H : Hp) : Prop where
  len : σ.length = env.length
  ex : ∀ a o, c.H0 a = some o → ¬ c.M a → H a = some o
  n0 : ∀ a, c.N0 a → H a ≠ none
  val : ∀ (i : Nat) s, env[i]? = some (some s) → ∃ v, σ[i]? = some (some v) ∧ SvOk c.K (Nof c ad os) ad os.length H v s
  obj : ∀ (k : Nat) o, os[k]? = some o → o.live = true → (c.H0 (ad k) = none ∨ c.M (ad k)) ∧ SoOk c.K (Nof c ad os) ad os.length H (ad k) o
  inj : ∀ k j, Lv os k → Lv os j → ad k = ad j → k = j
  nn : ∀ k, Lv os k → ¬ c.N0 (ad k)
  frm : ∀ p ∈ c.fr, SvOk c.K (Nof c ad os) ad c.lo H p.1 p.2
  low : c.lo ≤ os.length

section
variable {c : Cn} {ad : Nat → Addr} {env : Sy} {os : List SO} {σ : St} {H H' : Hp}
theorem Paired.imp {α β : Type} {F G : α → β → Prop} : ∀ {l₁ : List α} {l₂ : List β}, Paired F l₁ l₂ → (∀ a b, F a b → G a b) → Paired G l₁ l₂
  | _, _, .nil, _ => .nil
  | _, _, .cons r t, f => .cons (f _ _ r) (Paired.imp t f)
theorem ObOk.ext {K : PySem.W.Frag} {N : Addr → Prop} {v : V} {C : Addr} {m : List (Str × PyData)} (e : Ex H H') (h : ObOk K N H v C m) : ObOk K N H' v C m := by
  obtain ⟨a, dx, fs, h1, h2, h3, h4⟩ := h
  exact ⟨a, dx, fs, h1, e _ _ h2, h3, Paired.imp h4 fun _ _ z => ⟨z.1, Dn.ext e z.2⟩⟩
theorem ObOk.sub {K : PySem.W.Frag} {N N' : Addr → Prop} {v : V} {C : Addr} {m : List (Str × PyData)} (e : ∀ a, N' a → N a) (h : ObOk K N H v C m) : ObOk K N' H v C m := by
  obtain ⟨a, dx, fs, h1, h2, h3, h4⟩ := h
  exact ⟨a, dx, fs, h1, h2, fun z => h3 (e _ z), Paired.imp h4 fun _ _ z => ⟨z.1, Dn.sub e z.2⟩⟩
theorem ObOk.mut {K : PySem.W.Frag} {N : Addr → Prop} {v : V} {C : Addr} {m : List (Str × PyData)} {p : Addr} {o o' : HO} (hp : H p = some o) (hw : Wr o = true) (hn : N p) (h : ObOk K N H v C m) : ObOk K N (upd H p o') v C m := by
  obtain ⟨a, dx, fs, h1, h2, h3, h4⟩ := h
  exact ⟨a, dx, fs, h1, by rw [upd_ne (show a ≠ p from fun z => h3 (z ▸ hn))]; exact h2, h3, Paired.imp h4 fun _ _ z => ⟨z.1, Dn.mut hp hw hn z.2⟩⟩
theorem ObOk.add {K : PySem.W.Frag} {N : Addr → Prop} {v : V} {C : Addr} {m : List (Str × PyData)} {p : Addr} (hp : H p = none) (h : ObOk K N H v C m) : ObOk K (fun a => N a ∨ a = p) H v C m := by
  obtain ⟨a, dx, fs, h1, h2, h3, h4⟩ := h
  refine ⟨a, dx, fs, h1, h2, fun z => z.elim h3 fun z => ?_, Paired.imp h4 fun _ _ z => ⟨z.1, Dn.add hp z.2⟩⟩
  rw [z, hp] at h2
  cases h2
theorem SvOk.ext {K : PySem.W.Frag} {N : Addr → Prop} {n : Nat} {v : V} {s : SV} (e : Ex H H') (h : SvOk K N ad n H v s) : SvOk K N ad n H' v s := by
  cases s with
  | i d => exact Dn.ext e h
  | t ks => obtain ⟨b, e1, e2⟩ := h; exact ⟨b, e1, e _ _ e2.1, e2.2⟩
  | ob C m => exact ObOk.ext e h
  | r k => exact h
theorem SvOk.sub {K : PySem.W.Frag} {N N' : Addr → Prop} {n : Nat} {v : V} {s : SV} (e : ∀ a, N' a → N a) (h : SvOk K N ad n H v s) : SvOk K N' ad n H v s := by
  cases s with
  | i d => exact Dn.sub e h
  | t ks => exact h
  | ob C m => exact ObOk.sub e h
  | r k => exact h
theorem SvOk.mut {K : PySem.W.Frag} {N : Addr → Prop} {n : Nat} {v : V} {s : SV} {p : Addr} {o o' : HO} (hp : H p = some o) (hw : Wr o = true) (hn : N p) (h : SvOk K N ad n H v s) : SvOk K N ad n (upd H p o') v s := by
  cases s with
  | i d => exact Dn.mut hp hw hn h
  | ob C m => exact ObOk.mut hp hw hn h
  | t ks =>
    obtain ⟨b, e1, e2, e3⟩ := h
    exact ⟨b, e1, by rw [upd_ne (show b ≠ p from fun z => by subst z; rw [hp] at e2; cases e2; rw [hw] at e3; cases e3)]; exact e2, e3⟩
  | r k => exact h
theorem SoOk.map {K : PySem.W.Frag} {N N' : Addr → Prop} {ad ad' : Nat → Addr} {n n' : Nat} {l : Addr} {o : SO} (f : ∀ v s, SvOk K N ad n H v s → SvOk K N' ad' n' H' v s) (hl : ∀ u, H l = some u → H' l = some u) (h : SoOk K N ad n H l o) : SoOk K N' ad' n' H' l o := by
  cases o with
  | x => exact True.intro
  | lst xs => obtain ⟨vs, e, p⟩ := h; exact ⟨vs, hl _ e, Paired.imp p f⟩
  | dK kvs => obtain ⟨vs, e, p⟩ := h; exact ⟨vs, hl _ e, Paired.imp p fun a b q => ⟨q.1, f _ _ q.2⟩⟩
  | dT kvs => obtain ⟨vs, e, p⟩ := h; exact ⟨vs, hl _ e, Paired.imp p fun a b q => ⟨q.1, f _ _ q.2⟩⟩
  | ho g => exact ⟨hl _ h.1, h.2⟩
  | nums => obtain ⟨ns, e⟩ := h; exact ⟨ns, hl _ e⟩
  | stt k => obtain ⟨v, a, m, e, r⟩ := h; exact ⟨v, a, m, hl _ e, f _ _ r⟩
  | ob C fs => obtain ⟨dx, vs, e, p⟩ := h; exact ⟨dx, vs, hl _ e, Paired.imp p fun a b q => ⟨q.1, f _ _ q.2⟩⟩
theorem SoOk.some {K : PySem.W.Frag} {N : Addr → Prop} {n : Nat} {l : Addr} {o : SO} (h : SoOk K N ad n H l o) (hl : o.live = true) : ∃ u, H l = some u ∧ Wr u = true := by
  cases o with
  | x => cases hl
  | lst xs => obtain ⟨vs, e, p⟩ := h; exact ⟨_, e, rfl⟩
  | dK kvs => obtain ⟨vs, e, p⟩ := h; exact ⟨_, e, rfl⟩
  | dT kvs => obtain ⟨vs, e, p⟩ := h; exact ⟨_, e, rfl⟩
  | ho g => exact ⟨_, h.1, h.2⟩
  | nums => obtain ⟨ns, e⟩ := h; exact ⟨_, e, rfl⟩
  | stt k => obtain ⟨v, a, m, e, r⟩ := h; exact ⟨_, e, rfl⟩
  | ob C fs => obtain ⟨dx, vs, e, p⟩ := h; exact ⟨_, e, rfl⟩
theorem Ok.nof (ok : Ok c ad env os σ H) {a : Addr} (h : Nof c ad os a) : H a ≠ none := by
  rcases h with h | ⟨k, ⟨o, e, l⟩, rfl⟩
  · exact ok.n0 a h
  · obtain ⟨u, q, _⟩ := (ok.obj k o e l).2.some l
    rw [q]; exact fun z => nomatch z
theorem Ok.ext (ok : Ok c ad env os σ H) (e : Ex H H') : Ok c ad env os σ H' where
  len := ok.len
  ex := fun a o h m => e a o (ok.ex a o h m)
  n0 := fun a h => e.some (ok.n0 a h)
  val := fun i s h => let ⟨v, h1, h2⟩ := ok.val i s h; ⟨v, h1, h2.ext e⟩
  obj := fun k o h l => let ⟨h1, h2⟩ := ok.obj k o h l; ⟨h1, h2.map (fun _ _ q => q.ext e) fun u q => e _ _ q⟩
  inj := ok.inj
  nn := ok.nn
  frm := fun p hp => (ok.frm p hp).ext e
  low := ok.low
theorem Ok.set {i : Nat} {v : V} {s : SV} (ok : Ok c ad env os σ H) (h : SvOk c.K (Nof c ad os) ad os.length H v s) : Ok c ad (env.set i (some s)) os (σ.set i (some v)) H where
  len := by simp [ok.len]
  ex := ok.ex
  n0 := ok.n0
  val := fun j t e => by
    by_cases q : i = j
    · subst q
      by_cases hi : i < env.length
      · rw [List.getElem?_set_self hi] at e
        have e' : s = t := Option.some.inj (Option.some.inj e)
        subst e'
        exact ⟨v, List.getElem?_set_self (by rw [ok.len]; exact hi), h⟩
      · rw [List.getElem?_eq_none (by simp; omega)] at e
        cases e
    · rw [List.getElem?_set_ne q] at e
      obtain ⟨w, h1, h2⟩ := ok.val j t e
      exact ⟨w, by rw [List.getElem?_set_ne q]; exact h1, h2⟩
  obj := ok.obj
  inj := ok.inj
  nn := ok.nn
  frm := ok.frm
  low := ok.low
/-- a slot is forgotten -/
theorem Ok.setU {i : Nat} {v : Option V} (ok : Ok c ad env os σ H) : Ok c ad (env.set i none) os (σ.set i v) H where
  len := by simp [ok.len]
  ex := ok.ex
  n0 := ok.n0
  val := fun j t e => by
    by_cases q : i = j
    · subst q
      by_cases hi : i < env.length
      · rw [List.getElem?_set_self hi] at e
        cases Option.some.inj e
      · rw [List.getElem?_eq_none (by simp; omega)] at e
        cases e
    · rw [List.getElem?_set_ne q] at e
      obtain ⟨w, h1, h2⟩ := ok.val j t e
      exact ⟨w, by rw [List.getElem?_set_ne q]; exact h1, h2⟩
  obj := ok.obj
  inj := ok.inj
  nn := ok.nn
  frm := ok.frm
  low := ok.low

/-! ### more in the store -/
def adN (ad : Nat → Addr) (n : Nat) (p : Addr) : Nat → Addr := fun j => if j = n then p else ad j
theorem adN_same {n : Nat} {p : Addr} : adN ad n p n = p := by unfold adN; rw [if_pos rfl]
theorem adN_ne {n j : Nat} {p : Addr} (h : j ≠ n) : adN ad n p j = ad j := by unfold adN; rw [if_neg h]
theorem SvOk.adN {K : PySem.W.Frag} {N : Addr → Prop} {n : Nat} {v : V} {s : SV} {p : Addr} (h : SvOk K N ad n H v s) : SvOk K N (adN ad n p) (n + 1) H v s := by
  cases s with
  | i d => exact h
  | t ks => exact h
  | ob C m => exact h
  | r k => exact ⟨by rw [adN_ne (by have := h.2; omega)]; exact h.1, by have := h.2; omega⟩
theorem Lv_app {o : SO} {k : Nat} (h : Lv (os ++ [o]) k) : (Lv os k ∧ k < os.length) ∨ (k = os.length ∧ o.live = true) := by
  obtain ⟨u, e, l⟩ := h
  by_cases hk : k < os.length
  · rw [List.getElem?_append_left hk] at e
    exact Or.inl ⟨⟨u, e, l⟩, hk⟩
  · have hk2 : k = os.length := by
      have := (List.getElem?_eq_some_iff.mp e).1
      simp at this
      omega
    subst hk2
    rw [List.getElem?_append_right (Nat.le_refl _)] at e
    simp at e
    subst e
    exact Or.inr ⟨rfl, l⟩
theorem Nof_app {o : SO} {p : Addr} {a : Addr} (h : Nof c (adN ad os.length p) (os ++ [o]) a) : Nof c ad os a ∨ a = p := by
  rcases h with h | ⟨k, l, e⟩
  · exact Or.inl (Or.inl h)
  · rcases Lv_app l with ⟨l', hk⟩ | ⟨rfl, _⟩
    · rw [adN_ne (by omega)] at e
      exact Or.inl (Or.inr ⟨k, l', e⟩)
    · rw [adN_same] at e
      exact Or.inr e
/-- a new object -/
theorem Ok.new {o : SO} {p : Addr} (ok : Ok c ad env os σ H) (hp : H p = none) (e : Ex H H') (h0 : c.H0 p = none ∨ c.M p)
    (ho : SoOk c.K (fun a => Nof c ad os a ∨ a = p) ad os.length H' p o) : Ok c (adN ad os.length p) env (os ++ [o]) σ H' := by
  have hN : ∀ a, Nof c (adN ad os.length p) (os ++ [o]) a → Nof c ad os a ∨ a = p := fun a h => Nof_app h
  have hv : ∀ v s, SvOk c.K (Nof c ad os) ad os.length H v s → SvOk c.K (Nof c (adN ad os.length p) (os ++ [o])) (adN ad os.length p) (os ++ [o]).length H' v s := fun v s h => by
    have h1 : SvOk c.K (Nof c (adN ad os.length p) (os ++ [o])) ad os.length H' v s := by
      cases s with
      | i d => exact ((Dn.add hp h).sub hN).ext e
      | t ks => obtain ⟨b, e1, e2⟩ := h; exact ⟨b, e1, e _ _ e2.1, e2.2⟩
      | ob C m => exact ((ObOk.add hp h).sub hN).ext e
      | r k => exact h
    have h2 := h1.adN (p := p)
    simpa using h2
  have hv2 : ∀ v s, SvOk c.K (fun a => Nof c ad os a ∨ a = p) ad os.length H' v s → SvOk c.K (Nof c (adN ad os.length p) (os ++ [o])) (adN ad os.length p) (os ++ [o]).length H' v s := fun v s h => by
    have h2 := (h.sub hN).adN (p := p)
    simpa using h2
  refine ⟨ok.len, fun a u h m => e a u (ok.ex a u h m), fun a h => e.some (ok.n0 a h), fun i s h => ?_, fun k u h l => ?_, fun k j hk hj q => ?_, fun k hk => ?_, fun q hq => ?_, Nat.le_trans ok.low (by simp)⟩
  · obtain ⟨v, h1, h2⟩ := ok.val i s h
    exact ⟨v, h1, hv v s h2⟩
  · rcases Lv_app ⟨u, h, l⟩ with ⟨⟨u', e', l'⟩, hk⟩ | ⟨rfl, lo⟩
    · rw [List.getElem?_append_left hk] at h
      rw [adN_ne (by omega)]
      obtain ⟨h1, h2⟩ := ok.obj k u h l
      exact ⟨h1, h2.map hv fun w q => e _ _ q⟩
    · rw [List.getElem?_append_right (Nat.le_refl _)] at h
      simp at h
      subst h
      rw [adN_same]
      exact ⟨h0, ho.map hv2 fun w q => q⟩
  · rcases Lv_app hk with ⟨lk, hk'⟩ | ⟨rfl, _⟩
    · rcases Lv_app hj with ⟨lj, hj'⟩ | ⟨rfl, _⟩
      · rw [adN_ne (by omega), adN_ne (by omega)] at q
        exact ok.inj k j lk lj q
      · rw [adN_ne (by omega), adN_same] at q
        exact absurd hp (ok.nof (Or.inr ⟨k, lk, q.symm⟩))
    · rcases Lv_app hj with ⟨lj, hj'⟩ | ⟨rfl, _⟩
      · rw [adN_same, adN_ne (by omega)] at q
        exact absurd hp (ok.nof (Or.inr ⟨j, lj, q⟩))
      · rfl
  · rcases Lv_app hk with ⟨lk, hk'⟩ | ⟨rfl, _⟩
    · rw [adN_ne (by omega)]
      exact ok.nn k lk
    · rw [adN_same]
      intro z
      exact ok.n0 p z hp
  · have hf := ok.frm q hq
    obtain ⟨q1, q2⟩ := q
    cases q2 with
    | i d => exact ((Dn.add hp hf).sub hN).ext e
    | t ks => obtain ⟨b, e1, e2⟩ := hf; exact ⟨b, e1, e _ _ e2.1, e2.2⟩
    | ob C m => exact ((ObOk.add hp hf).sub hN).ext e
    | r k => exact ⟨by rw [adN_ne (by have h1 := hf.2; have h2 := ok.low; omega)]; exact hf.1, hf.2⟩
theorem Lv_set {o o' : SO} {k j : Nat} (h0 : os[k]? = some o) (l0 : o.live = true) (l : o'.live = true) : Lv (os.set k o') j ↔ Lv os j := by
  constructor
  · rintro ⟨u, e, hu⟩
    by_cases q : k = j
    · subst q; exact ⟨o, h0, l0⟩
    · rw [List.getElem?_set_ne q] at e; exact ⟨u, e, hu⟩
  · rintro ⟨u, e, hu⟩
    by_cases q : k = j
    · subst q; exact ⟨o', List.getElem?_set_self (List.getElem?_eq_some_iff.mp h0).1, l⟩
    · exact ⟨u, by rw [List.getElem?_set_ne q]; exact e, hu⟩
theorem Nof_set {o o' : SO} {k : Nat} (h0 : os[k]? = some o) (l0 : o.live = true) (l : o'.live = true) : Nof c ad (os.set k o') = Nof c ad os := by
  funext a
  refine propext ⟨fun h => ?_, fun h => ?_⟩
  · rcases h with h | ⟨j, lj, e⟩
    · exact Or.inl h
    · exact Or.inr ⟨j, (Lv_set h0 l0 l).mp lj, e⟩
  · rcases h with h | ⟨j, lj, e⟩
    · exact Or.inl h
    · exact Or.inr ⟨j, (Lv_set h0 l0 l).mpr lj, e⟩
/-- an object of the store is changed -/
theorem Ok.mut {o o' : SO} {k : Nat} {u' : HO} (ok : Ok c ad env os σ H) (h0 : os[k]? = some o) (l0 : o.live = true) (l : o'.live = true)
    (ho : SoOk c.K (Nof c ad os) ad os.length (upd H (ad k) u') (ad k) o') : Ok c ad env (os.set k o') σ (upd H (ad k) u') := by
  obtain ⟨hk0, hk1⟩ := ok.obj k o h0 l0
  obtain ⟨u, eu, wu⟩ := hk1.some l0
  have hN : Nof c ad os (ad k) := Or.inr ⟨k, ⟨o, h0, l0⟩, rfl⟩
  have hv : ∀ v s, SvOk c.K (Nof c ad os) ad os.length H v s → SvOk c.K (Nof c ad (os.set k o')) ad (os.set k o').length (upd H (ad k) u') v s := fun v s h => by
    rw [Nof_set h0 l0 l, List.length_set]
    exact h.mut eu wu hN
  refine ⟨ok.len, fun a w h m => ?_, fun a h => ?_, fun i s h => ?_, fun j w h lw => ?_, fun i j hi hj q => ok.inj i j ((Lv_set h0 l0 l).mp hi) ((Lv_set h0 l0 l).mp hj) q, fun j hj => ok.nn j ((Lv_set h0 l0 l).mp hj), fun q hq => ?_, by rw [List.length_set]; exact ok.low⟩
  · by_cases q : a = ad k
    · subst q
      rcases hk0 with z | z
      · rw [z] at h; cases h
      · exact absurd z m
    · rw [upd_ne q]; exact ok.ex a w h m
  · by_cases q : a = ad k
    · rw [q, upd_same]; exact fun z => nomatch z
    · rw [upd_ne q]; exact ok.n0 a h
  · obtain ⟨v, h1, h2⟩ := ok.val i s h
    exact ⟨v, h1, hv v s h2⟩
  · by_cases q : k = j
    · subst q
      rw [List.getElem?_set_self (List.getElem?_eq_some_iff.mp h0).1] at h
      cases h
      rw [Nof_set h0 l0 l, List.length_set]
      exact ⟨hk0, ho⟩
    · rw [List.getElem?_set_ne q] at h
      obtain ⟨h1, h2⟩ := ok.obj j w h lw
      refine ⟨h1, h2.map hv fun x hx => ?_⟩
      rw [upd_ne]
      · exact hx
      · intro z
        exact q (ok.inj k j ⟨o, h0, l0⟩ ⟨w, h, lw⟩ z.symm)
  · rw [Nof_set h0 l0 l]
    exact (ok.frm q hq).mut eu wu hN

/-! ### less known -/
def WkE : Sy → Sy → Prop
  | [], [] => True
  | s :: e, t :: e' => (t = none ∨ s = t) ∧ WkE e e'
  | _, _ => False
def WkO : List SO → List SO → Prop
  | _, [] => True
  | o :: r, o' :: r' => (o' = .x ∨ o = o') ∧ WkO r r'
  | [], _ :: _ => False
theorem WkE.len : ∀ {e e' : Sy}, WkE e e' → e.length = e'.length
  | [], [], _ => rfl
  | _ :: _, _ :: _, h => congrArg (· + 1) (WkE.len h.2)
theorem WkE.get : ∀ {e e' : Sy} {i : Nat} {s : SV}, WkE e e' → e'[i]? = some (some s) → e[i]? = some (some s)
  | [], [], _, _, _, q => by simp at q
  | a :: e, b :: e', 0, s, h, q => by
    simp at q ⊢
    rcases h.1 with z | z
    · rw [z] at q; cases q
    · rw [z]; exact q
  | a :: e, b :: e', i + 1, s, h, q => by
    simp at q ⊢
    exact WkE.get h.2 q
theorem WkE.refl : ∀ e : Sy, WkE e e
  | [] => True.intro
  | _ :: e => ⟨Or.inr rfl, WkE.refl e⟩
theorem WkO.refl : ∀ e : List SO, WkO e e
  | [] => True.intro
  | _ :: e => ⟨Or.inr rfl, WkO.refl e⟩
theorem WkO.get : ∀ {e e' : List SO} {i : Nat} {s : SO}, WkO e e' → e'[i]? = some s → s.live = true → e[i]? = some s
  | _, [], _, _, _, q, _ => by simp at q
  | a :: e, b :: e', 0, s, h, q, l => by
    simp at q ⊢
    rcases h.1 with z | z
    · rw [z] at q; subst q; cases l
    · rw [z]; exact q
  | a :: e, b :: e', i + 1, s, h, q, l => by
    simp at q ⊢
    exact WkO.get h.2 q l
theorem WkO.lv {e e' : List SO} {k : Nat} (h : WkO e e') (l : Lv e' k) : Lv e k := by
  obtain ⟨o, q, lo⟩ := l
  exact ⟨o, h.get q lo, lo⟩
/-- no place n or above it is named -/
def SvLt (n : Nat) : SV → Prop
  | .i _ => True
  | .t _ => True
  | .ob _ _ => True
  | .r k => k < n
def SoLt (n : Nat) : SO → Prop
  | .x => True
  | .lst xs => ∀ s ∈ xs, SvLt n s
  | .dK kvs => ∀ p ∈ kvs, SvLt n p.2
  | .dT kvs => ∀ p ∈ kvs, SvLt n p.2
  | .ho _ => True
  | .nums => True
  | .stt k => k < n
  | .ob _ fs => ∀ p ∈ fs, SvLt n p.2
def EnLt (n : Nat) : Sy → Prop
  | [] => True
  | none :: e => EnLt n e
  | some s :: e => SvLt n s ∧ EnLt n e
def OsLt (n : Nat) : List SO → Prop
  | [] => True
  | o :: r => SoLt n o ∧ OsLt n r
theorem EnLt.get : ∀ {n : Nat} {e : Sy} {i : Nat} {s : SV}, EnLt n e → e[i]? = some (some s) → SvLt n s
  | _, [], _, _, _, q => by simp at q
  | n, none :: e, 0, s, h, q => by simp at q
  | n, some t :: e, 0, s, h, q => by simp at q; subst q; exact h.1
  | n, none :: e, i + 1, s, h, q => by simp at q; exact EnLt.get (e := e) h q
  | n, some t :: e, i + 1, s, h, q => by simp at q; exact EnLt.get h.2 q
theorem OsLt.get : ∀ {n : Nat} {e : List SO} {i : Nat} {s : SO}, OsLt n e → e[i]? = some s → SoLt n s
  | _, [], _, _, _, q => by simp at q
  | n, t :: e, 0, s, h, q => by simp at q; subst q; exact h.1
  | n, t :: e, i + 1, s, h, q => by simp at q; exact OsLt.get h.2 q
theorem Paired.impR {α β : Type} {F G : α → β → Prop} : ∀ {l₁ : List α} {l₂ : List β}, Paired F l₁ l₂ → (∀ a b, b ∈ l₂ → F a b → G a b) → Paired G l₁ l₂
  | _, _, .nil, _ => .nil
  | _, _, .cons r t, f => .cons (f _ _ (List.mem_cons_self ..) r) (Paired.impR t fun a b m => f a b (List.mem_cons_of_mem _ m))
theorem Ok.weak {env' : Sy} {os' : List SO} (ok : Ok c ad env os σ H) (he : WkE env env') (ho : WkO os os') (l1 : EnLt os'.length env') (l2 : OsLt os'.length os') (l3 : c.lo ≤ os'.length) : Ok c ad env' os' σ H := by
  have hN : ∀ a, Nof c ad os' a → Nof c ad os a := fun a h => by
    rcases h with h | ⟨k, l, e⟩
    · exact Or.inl h
    · exact Or.inr ⟨k, ho.lv l, e⟩
  have hv : ∀ v s, SvLt os'.length s → SvOk c.K (Nof c ad os) ad os.length H v s → SvOk c.K (Nof c ad os') ad os'.length H v s := fun v s l h => by
    cases s with
    | i d => exact Dn.sub hN h
    | t ks => exact h
    | ob C m => exact ObOk.sub hN h
    | r k => exact ⟨h.1, l⟩
  refine ⟨ok.len.trans he.len, ok.ex, ok.n0, fun i s h => ?_, fun k o h l => ?_, fun k j lk lj => ok.inj k j (ho.lv lk) (ho.lv lj), fun k lk => ok.nn k (ho.lv lk), fun p hp => (ok.frm p hp).sub hN, l3⟩
  · obtain ⟨v, h1, h2⟩ := ok.val i s (he.get h)
    exact ⟨v, h1, hv v s (l1.get h) h2⟩
  · obtain ⟨h1, h2⟩ := ok.obj k o (ho.get h l) l
    refine ⟨h1, ?_⟩
    have lt := l2.get h
    cases o with
    | x => exact True.intro
    | lst xs => obtain ⟨vs, e, p⟩ := h2; exact ⟨vs, e, Paired.impR p fun a b m q => hv _ _ (lt b m) q⟩
    | dK kvs => obtain ⟨vs, e, p⟩ := h2; exact ⟨vs, e, Paired.impR p fun a b m q => ⟨q.1, hv _ _ (lt b m) q.2⟩⟩
    | dT kvs => obtain ⟨vs, e, p⟩ := h2; exact ⟨vs, e, Paired.impR p fun a b m q => ⟨q.1, hv _ _ (lt b m) q.2⟩⟩
    | ho g => exact h2
    | nums => exact h2
    | stt k => obtain ⟨v, a, m, e, r⟩ := h2; exact ⟨v, a, m, e, hv _ _ lt r⟩
    | ob C fs => obtain ⟨dx, vs, e, p⟩ := h2; exact ⟨dx, vs, e, Paired.impR p fun a b m q => ⟨q.1, hv _ _ (lt b m) q.2⟩⟩
theorem paired_dn {K : PySem.W.Frag} {N : Addr → Prop} {n : Nat} : ∀ {vs : List V} {ds : List PyData}, Paired (SvOk K N ad n H) vs (ds.map SV.i) → DnAll K N H vs ds
  | _, [], h => by cases h; exact .nil
  | _, d :: ds, h => by
    cases h with
    | cons a b => exact .cons a (paired_dn b)
theorem dn_paired {K : PySem.W.Frag} {N : Addr → Prop} {n : Nat} : ∀ {vs : List V} {ds : List PyData}, DnAll K N H vs ds → Paired (SvOk K N ad n H) vs (ds.map SV.i)
  | _, _, .nil => .nil
  | _, _, .cons a b => .cons a (dn_paired b)
/-- a list of data is data from now on -/
theorem Ok.own {i k : Nat} {ds : List PyData} (ok : Ok c ad env os σ H) (hi : env[i]? = some (some (.r k))) (hk : os[k]? = some (.lst (ds.map SV.i))) :
    Ok c ad (env.set i (some (.i (.list ds)))) (os.set k .x) σ H := by
  have lk : Lv os k := ⟨_, hk, rfl⟩
  have hl : ∀ j, Lv (os.set k .x) j → Lv os j ∧ j ≠ k := fun j h => by
    obtain ⟨u, e, hu⟩ := h
    by_cases q : k = j
    · subst q
      rw [List.getElem?_set_self (List.getElem?_eq_some_iff.mp hk).1] at e
      cases e; cases hu
    · rw [List.getElem?_set_ne q] at e; exact ⟨⟨u, e, hu⟩, fun z => q z.symm⟩
  have hN : ∀ a, Nof c ad (os.set k .x) a → Nof c ad os a ∧ a ≠ ad k := fun a h => by
    rcases h with h | ⟨j, l, e⟩
    · exact ⟨Or.inl h, fun z => ok.nn k lk (z ▸ h)⟩
    · obtain ⟨l', ne⟩ := hl j l
      exact ⟨Or.inr ⟨j, l', e⟩, fun z => ne (ok.inj j k l' lk (e.symm.trans z))⟩
  have hv : ∀ v s, SvOk c.K (Nof c ad os) ad os.length H v s → SvOk c.K (Nof c ad (os.set k .x)) ad (os.set k .x).length H v s := fun v s h => by
    rw [List.length_set]
    exact h.sub fun a q => (hN a q).1
  obtain ⟨v0, hv0, e0, _⟩ := ok.val i _ hi
  obtain ⟨_, vs, hvs, pv⟩ := ok.obj k _ hk rfl
  have hd : Dn c.K (Nof c ad (os.set k .x)) H v0 (.list ds) := by
    rw [e0]
    exact .lst (Or.inl hvs) (fun z => (hN _ z).2 rfl) ((paired_dn pv).sub fun a q => (hN a q).1)
  refine ⟨by rw [List.length_set]; exact ok.len, ok.ex, ok.n0, fun j s h => ?_, fun j o h l => ?_, fun a b la lb => ok.inj a b (hl a la).1 (hl b lb).1, fun a la => ok.nn a (hl a la).1, fun p hp => (ok.frm p hp).sub fun a q => (hN a q).1, by rw [List.length_set]; exact ok.low⟩
  · by_cases q : i = j
    · subst q
      rw [List.getElem?_set_self (List.getElem?_eq_some_iff.mp hi).1] at h
      cases h
      exact ⟨v0, hv0, hd⟩
    · rw [List.getElem?_set_ne q] at h
      obtain ⟨v, h1, h2⟩ := ok.val j s h
      exact ⟨v, h1, hv v s h2⟩
  · by_cases q : k = j
    · subst q
      rw [List.getElem?_set_self (List.getElem?_eq_some_iff.mp hk).1] at h
      cases h; cases l
    · rw [List.getElem?_set_ne q] at h
      obtain ⟨h1, h2⟩ := ok.obj j o h l
      exact ⟨h1, h2.map hv fun u e => e⟩
/-- the same with other facts carried along -/
abbrev Cn.w (c : Cn) (fr : List (V × SV)) (lo : Nat) : Cn := ⟨c.K, c.H0, c.N0, c.M, fr, lo⟩
theorem SvOk.lift {K : PySem.W.Frag} {N : Addr → Prop} {n n' : Nat} {v : V} {s : SV} (e : n ≤ n') (h : SvOk K N ad n H v s) : SvOk K N ad n' H v s := by
  cases s with
  | i d => exact h
  | t ks => exact h
  | ob C m => exact h
  | r k => exact ⟨h.1, Nat.lt_of_lt_of_le h.2 e⟩
/-- facts are carried along from here -/
theorem Ok.pin {v : V} {s : SV} (ok : Ok c ad env os σ H) (h : SvOk c.K (Nof c ad os) ad os.length H v s) : Ok (c.w ((v, s) :: c.fr) os.length) ad env os σ H :=
  ⟨ok.len, ok.ex, ok.n0, ok.val, ok.obj, ok.inj, ok.nn, fun p hp => by
    rcases List.mem_cons.mp hp with z | z
    · subst z; exact h
    · exact (ok.frm p z).lift ok.low, Nat.le_refl _⟩
theorem Ok.pin0 (ok : Ok c ad env os σ H) : Ok (c.w c.fr os.length) ad env os σ H :=
  ⟨ok.len, ok.ex, ok.n0, ok.val, ok.obj, ok.inj, ok.nn, fun p hp => (ok.frm p hp).lift ok.low, Nat.le_refl _⟩
end
end DL

set_option Elab.async false
set_option linter.all false
set_option maxRecDepth 100000
set_option maxHeartbeats 2000000
/-! The data layer: judgements and rules. -/
namespace DL
open PySem L2
open Evl (Ex Ex.refl Ex.trans Ex.new)

/-! ### judgements -/
/-- what is avoided: all of the store, or (w) what the caller wants avoided alone -/
def Nw (w : Bool) (c : Cn) (ad : Nat → Addr) (os : List SO) : Addr → Prop := fun a => c.N0 a ∨ (w = false ∧ ∃ k, Lv os k ∧ a = ad k)
theorem Nw_false {c : Cn} {ad : Nat → Addr} {os : List SO} : Nw false c ad os = Nof c ad os := by
  funext a
  exact propext ⟨fun h => h.elim Or.inl fun z => Or.inr z.2, fun h => h.elim Or.inl fun z => Or.inr ⟨rfl, z⟩⟩
theorem Nw_le {w : Bool} {c : Cn} {ad : Nat → Addr} {os : List SO} : ∀ a, Nw w c ad os a → Nof c ad os a := fun a h => h.elim Or.inl fun z => Or.inr z.2
theorem Nw_n0 {w : Bool} {c : Cn} {ad : Nat → Addr} {os : List SO} : ∀ a, c.N0 a → Nw w c ad os a := fun a h => Or.inl h
theorem Nw_true {c : Cn} {ad : Nat → Addr} {os : List SO} : ∀ a, Nw true c ad os a → c.N0 a := fun a h => h.elim id fun z => nomatch z.1

/-- te gives the data d; the heap is only added to -/
def EvX (w : Bool) (c : Cn) (env : Sy) (os : List SO) (te : TE) (d : PyData) : Prop := ∀ ad σ H, Ok c ad env os σ H → ∀ Q : VK, (∀ v H2, Ex H H2 → Dn c.K (Nw w c ad os) H2 v d → Q v H2) → te σ H Q
/-- te gives the k-th object -/
def EvR (c : Cn) (env : Sy) (os : List SO) (te : TE) (k : Nat) : Prop := k < os.length ∧ ∀ ad σ H, Ok c ad env os σ H → ∀ Q : VK, (∀ H2, Ex H H2 → Q (.ref (ad k)) H2) → te σ H Q
/-- te gives an object that stays as it is -/
def EvK (c : Cn) (env : Sy) (os : List SO) (te : TE) (u : HO) : Prop := Wr u = false ∧ ∀ ad σ H, Ok c ad env os σ H → ∀ Q : VK, (∀ b H2, Ex H H2 → H2 b = some u → Q (.ref b) H2) → te σ H Q
/-- gives an instance -/
def EvB (c : Cn) (env : Sy) (os : List SO) (te : TE) (C : Addr) (m : List (Str × PyData)) : Prop := ∀ ad σ H, Ok c ad env os σ H → ∀ Q : VK, (∀ v H2, Ex H H2 → ObOk c.K (Nof c ad os) H2 v C m → Q v H2) → te σ H Q
def EvS (c : Cn) (env : Sy) (os : List SO) (te : TE) : SV → Prop
  | .i d => EvX false c env os te d
  | .t u => EvK c env os te u
  | .ob C m => EvB c env os te C m
  | .r k => EvR c env os te k
/-- te gives a new object -/
def EvF (c : Cn) (env : Sy) (os : List SO) (te : TE) (o : SO) : Prop := ∀ ad σ H, Ok c ad env os σ H → ∀ Q : VK, (∀ p H2, H p = none → Ex H H2 → SoOk c.K (fun a => Nof c ad os a ∨ a = p) ad os.length H2 p o → Q (.ref p) H2) → te σ H Q
/-- te gives a list that may be read -/
def EvI (c : Cn) (env : Sy) (os : List SO) (te : TE) (ss : List SV) : Prop := ∀ ad σ H, Ok c ad env os σ H → ∀ Q : VK, (∀ p vs H2, Ex H H2 → SqL c.K H2 p vs → Paired (SvOk c.K (Nof c ad os) ad os.length H2) vs ss → Q (.ref p) H2) → te σ H Q
def EvT (c : Cn) (env : Sy) (os : List SO) (tt : TT) (b : Bool) : Prop := ∀ ad σ H, Ok c ad env os σ H → ∀ Q : Bool → Hp → Prop, (∀ H2, Ex H H2 → Q b H2) → tt σ H Q
def EvA (w : Bool) (c : Cn) (env : Sy) (os : List SO) (ta : TA) (ds : List PyData) : Prop := ∀ ad σ H, Ok c ad env os σ H → ∀ Q : List V → Hp → Prop, (∀ vs H2, Ex H H2 → DnAll c.K (Nw w c ad os) H2 vs ds → Q vs H2) → ta σ H Q
def EvAS (c : Cn) (env : Sy) (os : List SO) (ta : TA) (ss : List SV) : Prop := ∀ ad σ H, Ok c ad env os σ H → ∀ Q : List V → Hp → Prop, (∀ vs H2, Ex H H2 → Paired (SvOk c.K (Nof c ad os) ad os.length H2) vs ss → Q vs H2) → ta σ H Q
def EvO (c : Cn) (env : Sy) (os : List SO) (to : TO) (o : Option Int) : Prop := ∀ ad σ H, Ok c ad env os σ H → ∀ Q : Option Int → Hp → Prop, (∀ H2, Ex H H2 → Q o H2) → to σ H Q

section
variable {w : Bool} {c : Cn} {env : Sy} {os : List SO} {te ta tb tl : TE} {d : PyData} {tt tu : TT}

/-! ### conversions -/
theorem EvX.weak (h : EvX false c env os te d) : EvX w c env os te d := fun ad σ H ok Q q => h ad σ H ok Q fun v H2 e r => q v H2 e (r.sub (by rw [Nw_false]; exact Nw_le))
theorem EvX.strong (hd : noList d = true) (h : EvX true c env os te d) : EvX w c env os te d := fun ad σ H ok Q q => h ad σ H ok Q fun v H2 e r => q v H2 e (Dn.goF (fun _ _ r => r) d v hd r)
theorem EvX.n0 (h : EvX w c env os te d) : EvX true c env os te d := fun ad σ H ok Q q => h ad σ H ok Q fun v H2 e r => q v H2 e (r.sub fun a z => Nw_n0 a (Nw_true a z))
theorem EvX.is {d' : PyData} (h : EvX w c env os te d) (e : d = d') : EvX w c env os te d' := e ▸ h
theorem EvT.is {b b' : Bool} (h : EvT c env os tt b) (e : b = b') : EvT c env os tt b' := e ▸ h
theorem EvF.ev {ds : List PyData} (h : EvF c env os te (.lst (ds.map SV.i))) : EvX w c env os te (.list ds) := EvX.weak fun ad σ H ok Q q => h ad σ H ok Q fun p H2 hp e r => by
  obtain ⟨vs, h1, h2⟩ := r
  refine q _ H2 e ?_
  rw [Nw_false]
  exact .lst (Or.inl h1) (fun z => ok.nof z hp) ((paired_dn h2).sub fun a z => Or.inl z)
theorem EvX.it {ds : List PyData} (h : EvX false c env os te (.list ds)) : EvI c env os te (ds.map SV.i) := fun ad σ H ok Q q => h ad σ H ok Q fun v H2 e r => by
  rw [Nw_false] at r
  cases r with
  | lst r n a => exact q _ _ H2 e (Or.inl r) (dn_paired a)
  | lstK r a => exact q _ _ H2 e (Or.inr r) (dn_paired a)
theorem EvR.it {k : Nat} {ss : List SV} (h : EvR c env os te k) (hk : os[k]? = some (.lst ss)) : EvI c env os te ss := fun ad σ H ok Q q => h.2 ad σ H ok Q fun H2 e => by
  obtain ⟨_, vs, h1, h2⟩ := (ok.ext e).obj k _ hk rfl
  exact q _ vs H2 e (Or.inl (Or.inl h1)) h2
theorem EvF.it {ss : List SV} (h : EvF c env os te (.lst ss)) : EvI c env os te ss := fun ad σ H ok Q q => h ad σ H ok Q fun p H2 hp e r => by
  obtain ⟨vs, h1, h2⟩ := r
  exact q _ vs H2 e (Or.inl (Or.inl h1)) (Paired.imp h2 fun _ _ z => z.sub fun a y => Or.inl y)
theorem EvR.data {k : Nat} {ds : List PyData} (h : EvR c env os te k) (hk : os[k]? = some (.lst (ds.map SV.i))) : EvX true c env os te (.list ds) := fun ad σ H ok Q q => h.2 ad σ H ok Q fun H2 e => by
  have ok2 := ok.ext e
  obtain ⟨_, vs, h1, h2⟩ := ok2.obj k _ hk rfl
  exact q _ H2 e (.lst (Or.inl h1) (fun z => ok2.nn k ⟨_, hk, rfl⟩ (Nw_true _ z)) ((paired_dn h2).sub fun a z => Or.inl (Nw_true a z)))

/-! ### names, constants -/
theorem ex_var {i : Nat} (h : env[i]? = some (some (.i d))) : EvX w c env os (tVar i) d := EvX.weak fun ad σ H ok Q q => by
  obtain ⟨v, h1, h2⟩ := ok.val i _ h
  exact ⟨v, h1, q v H (Ex.refl H) (by rw [Nw_false]; exact h2)⟩
theorem er_var {i k : Nat} (h : env[i]? = some (some (.r k))) (hk : k < os.length) : EvR c env os (tVar i) k := ⟨hk, fun ad σ H ok Q q => by
  obtain ⟨v, h1, h2⟩ := ok.val i _ h
  obtain ⟨rfl, _⟩ := h2
  exact ⟨_, h1, q H (Ex.refl H)⟩⟩
theorem ex_int {i : Int} : EvX w c env os (tC (.int i)) (.int i) := fun ad σ H ok Q q => q _ H (Ex.refl H) (.int i)
theorem ex_bl {i : Bool} : EvX w c env os (tC (.bl i)) (.bool i) := fun ad σ H ok Q q => q _ H (Ex.refl H) (.bl i)
theorem ex_str {i : Str} : EvX w c env os (tC (.str i)) (.str i) := fun ad σ H ok Q q => q _ H (Ex.refl H) (.str i)
theorem ex_non : EvX w c env os (tC .non) .none := fun ad σ H ok Q q => q _ H (Ex.refl H) .non
/-- a constant of the module that is an object -/
theorem ex_const {a : Addr} (h : ∀ N H, Dn c.K N H (.ref a) d) : EvX w c env os (tC (.ref a)) d := fun ad σ H ok Q q => q _ H (Ex.refl H) (h _ H)

/-! ### operators on ints -/
theorem dn_int {K : PySem.W.Frag} {N : Addr → Prop} {H : Hp} {v : V} {i : Int} (h : Dn K N H v (.int i)) : v = .int i := by cases h; rfl
theorem dn_bool {K : PySem.W.Frag} {N : Addr → Prop} {H : Hp} {v : V} {i : Bool} (h : Dn K N H v (.bool i)) : v = .bl i := by cases h; rfl
theorem dn_str {K : PySem.W.Frag} {N : Addr → Prop} {H : Hp} {v : V} {i : Str} (h : Dn K N H v (.str i)) : v = .str i := by cases h; rfl
theorem dn_none {K : PySem.W.Frag} {N : Addr → Prop} {H : Hp} {v : V} (h : Dn K N H v .none) : v = .non := by cases h; rfl
theorem ex_i2 {f : Int → Int → Int} {i j : Int} (ha : EvX true c env os ta (.int i)) (hb : EvX true c env os tb (.int j)) : EvX w c env os (tOp (rI0 fun i j => .int (f i j)) ta tb) (.int (f i j)) := fun ad σ H ok Q q =>
  ha ad σ H ok _ fun v H1 e1 r1 => hb ad σ H1 (ok.ext e1) _ fun u H2 e2 r2 => ⟨i, j, dn_int r1, dn_int r2, q _ H2 (e1.trans e2) (.int _)⟩
theorem ex_i2c {C : Int → Int → Prop} {f : Int → Int → Int} {i j : Int} (ha : EvX true c env os ta (.int i)) (hb : EvX true c env os tb (.int j)) (hc : C i j) : EvX w c env os (tOp (rI C fun i j => .int (f i j)) ta tb) (.int (f i j)) := fun ad σ H ok Q q =>
  ha ad σ H ok _ fun v H1 e1 r1 => hb ad σ H1 (ok.ext e1) _ fun u H2 e2 r2 => ⟨i, j, dn_int r1, dn_int r2, hc, q _ H2 (e1.trans e2) (.int _)⟩
theorem ex_b2 {f : Int → Int → Bool} {i j : Int} (ha : EvX true c env os ta (.int i)) (hb : EvX true c env os tb (.int j)) : EvX w c env os (tOp (rI0 fun i j => .bl (f i j)) ta tb) (.bool (f i j)) := fun ad σ H ok Q q =>
  ha ad σ H ok _ fun v H1 e1 r1 => hb ad σ H1 (ok.ext e1) _ fun u H2 e2 r2 => ⟨i, j, dn_int r1, dn_int r2, q _ H2 (e1.trans e2) (.bl _)⟩
theorem ex_u {f : Int → Int} {i : Int} (ha : EvX true c env os ta (.int i)) : EvX w c env os (tUn (rU fun i => .int (f i)) ta) (.int (f i)) := fun ad σ H ok Q q =>
  ha ad σ H ok _ fun v H1 e1 r1 => ⟨i, dn_int r1, q _ H1 e1 (.int _)⟩
theorem ex_eqI {i j : Int} (ha : EvX true c env os ta (.int i)) (hb : EvX true c env os tb (.int j)) : EvX w c env os (tOp rEq ta tb) (.bool (decide (i = j))) := fun ad σ H ok Q q =>
  ha ad σ H ok _ fun v H1 e1 r1 => hb ad σ H1 (ok.ext e1) _ fun u H2 e2 r2 => by
    cases dn_int r1; cases dn_int r2
    refine ⟨rfl, q _ H2 (e1.trans e2) ?_⟩
    rw [dec_int, Bool.beq_eq_decide_eq]
    exact .bl _
theorem ex_neI {i j : Int} (ha : EvX true c env os ta (.int i)) (hb : EvX true c env os tb (.int j)) : EvX w c env os (tOp rNe ta tb) (.bool (!decide (i = j))) := fun ad σ H ok Q q =>
  ha ad σ H ok _ fun v H1 e1 r1 => hb ad σ H1 (ok.ext e1) _ fun u H2 e2 r2 => by
    cases dn_int r1; cases dn_int r2
    refine ⟨rfl, q _ H2 (e1.trans e2) ?_⟩
    rw [dec_int, Bool.beq_eq_decide_eq]
    exact .bl _
theorem ex_eqB {i j : Bool} (ha : EvX true c env os ta (.bool i)) (hb : EvX true c env os tb (.bool j)) : EvX w c env os (tOp rEq ta tb) (.bool (i == j)) := fun ad σ H ok Q q =>
  ha ad σ H ok _ fun v H1 e1 r1 => hb ad σ H1 (ok.ext e1) _ fun u H2 e2 r2 => by
    cases dn_bool r1; cases dn_bool r2
    refine ⟨rfl, q _ H2 (e1.trans e2) ?_⟩
    rw [dec_bl]
    exact .bl _
theorem ex_neB {i j : Bool} (ha : EvX true c env os ta (.bool i)) (hb : EvX true c env os tb (.bool j)) : EvX w c env os (tOp rNe ta tb) (.bool (!(i == j))) := fun ad σ H ok Q q =>
  ha ad σ H ok _ fun v H1 e1 r1 => hb ad σ H1 (ok.ext e1) _ fun u H2 e2 r2 => by
    cases dn_bool r1; cases dn_bool r2
    refine ⟨rfl, q _ H2 (e1.trans e2) ?_⟩
    rw [dec_bl]
    exact .bl _
theorem ex_eqS {i j : Str} (ha : EvX true c env os ta (.str i)) (hb : EvX true c env os tb (.str j)) : EvX w c env os (tOp rEq ta tb) (.bool (i == j)) := fun ad σ H ok Q q =>
  ha ad σ H ok _ fun v H1 e1 r1 => hb ad σ H1 (ok.ext e1) _ fun u H2 e2 r2 => by
    cases dn_str r1; cases dn_str r2
    refine ⟨rfl, q _ H2 (e1.trans e2) ?_⟩
    rw [dec_str]
    exact .bl _
theorem ex_neS {i j : Str} (ha : EvX true c env os ta (.str i)) (hb : EvX true c env os tb (.str j)) : EvX w c env os (tOp rNe ta tb) (.bool (!(i == j))) := fun ad σ H ok Q q =>
  ha ad σ H ok _ fun v H1 e1 r1 => hb ad σ H1 (ok.ext e1) _ fun u H2 e2 r2 => by
    cases dn_str r1; cases dn_str r2
    refine ⟨rfl, q _ H2 (e1.trans e2) ?_⟩
    rw [dec_str]
    exact .bl _
theorem plain_of {d : PyData} (h : SeqAt.shaped d = true) : d.plain = true := PyData.plain_of_canLay0 d (by
  unfold SeqAt.shaped at h
  rw [Bool.and_eq_true] at h
  exact h.1)
/-- == of data -/
theorem ex_eqD {d e : PyData} (ha : EvX true c env os ta d) (hb : EvX true c env os tb e) (s1 : SeqAt.shaped d = true) (s2 : SeqAt.shaped e = true) : EvX w c env os (tOp (rEqD c.K) ta tb) (.bool (PyData.eqv d e)) := fun ad σ H ok Q q =>
  ha ad σ H ok _ fun v H1 e1 r1 => hb ad σ H1 (ok.ext e1) _ fun u H2 e2 r2 => ⟨d, e, Dn.dp _ _ (plain_of s1) (r1.ext e2), Dn.dp _ _ (plain_of s2) r2, s1, s2, q _ H2 (e1.trans e2) (.bl _)⟩
theorem ex_neD {d e : PyData} (ha : EvX true c env os ta d) (hb : EvX true c env os tb e) (s1 : SeqAt.shaped d = true) (s2 : SeqAt.shaped e = true) : EvX w c env os (tOp (rNeD c.K) ta tb) (.bool (!PyData.eqv d e)) := fun ad σ H ok Q q =>
  ha ad σ H ok _ fun v H1 e1 r1 => hb ad σ H1 (ok.ext e1) _ fun u H2 e2 r2 => ⟨d, e, Dn.dp _ _ (plain_of s1) (r1.ext e2), Dn.dp _ _ (plain_of s2) r2, s1, s2, q _ H2 (e1.trans e2) (.bl _)⟩
theorem ex_isN {r : R2} (hr : r = (fun x y H Q => y = .non ∧ Q (.bl (decide (x = .non))) H)) (ha : EvX true c env os ta d) : EvX w c env os (tOp r ta (tC .non)) (.bool (match d with | .none => true | _ => false)) := fun ad σ H ok Q q => by
  subst hr
  refine ha ad σ H ok _ fun v H1 e1 r1 => ⟨rfl, q _ H1 e1 ?_⟩
  cases r1 <;> exact .bl _
theorem ex_notN {r : R2} (hr : r = (fun x y H Q => y = .non ∧ Q (.bl (!decide (x = .non))) H)) (ha : EvX true c env os ta d) : EvX w c env os (tOp r ta (tC .non)) (.bool (match d with | .none => false | _ => true)) := fun ad σ H ok Q q => by
  subst hr
  refine ha ad σ H ok _ fun v H1 e1 r1 => ⟨rfl, q _ H1 e1 ?_⟩
  cases r1 <;> exact .bl _
/-- a op b op c -/
theorem ex_chain {r r' : R2} {ta tb tc : TE} {f g : Int → Int → Bool} {i j k : Int} (hr : r = rI0 fun i j => .bl (f i j)) (hr' : r' = rI0 fun i j => .bl (g i j)) (ha : EvX true c env os ta (.int i)) (hb : EvX true c env os tb (.int j)) (hc : EvX true c env os tc (.int k)) :
    EvX w c env os (tChain r r' ta tb tc) (.bool (f i j && g j k)) := fun ad σ H ok Q q => by
  subst hr hr'
  refine ha ad σ H ok _ fun v H1 e1 r1 => hb ad σ H1 (ok.ext e1) _ fun u H2 e2 r2 => ⟨i, j, dn_int r1, dn_int r2, f i j, rfl, ?_⟩
  cases hf : f i j with
  | true =>
    rw [if_pos rfl]
    exact hc ad σ H2 ((ok.ext e1).ext e2) _ fun z H3 e3 r3 => ⟨j, k, dn_int r2, dn_int r3, q _ H3 ((e1.trans e2).trans e3) (by rw [hf]; exact .bl _)⟩
  | false =>
    rw [if_neg (by decide)]
    exact q _ H2 (e1.trans e2) (by rw [hf]; exact .bl _)

/-! ### tests -/
theorem et_test {b : Bool} (h : EvX true c env os te (.bool b)) : EvT c env os (tTest te) b := fun ad σ H ok Q q => h ad σ H ok _ fun v H2 e r => ⟨b, dn_bool r, q H2 e⟩
theorem et_B {b : Bool} (h : EvX true c env os te (.bool b)) : EvT c env os (tB te) b := fun ad σ H ok Q q => h ad σ H ok _ fun v H2 e r => ⟨b, dn_bool r, q H2 e⟩
theorem et_and {a b : Bool} (h1 : EvT c env os tt a) (h2 : a = true → EvT c env os tu b) : EvT c env os (tAnd tt tu) (a && b) := fun ad σ H ok Q q => h1 ad σ H ok _ fun H2 e2 => by
  cases a with
  | true =>
    show tu σ H2 Q
    exact h2 rfl ad σ H2 (ok.ext e2) Q fun H3 e3 => q H3 (e2.trans e3)
  | false =>
    show Q false H2
    exact q H2 e2
theorem et_or {a b : Bool} (h1 : EvT c env os tt a) (h2 : a = false → EvT c env os tu b) : EvT c env os (tOr tt tu) (a || b) := fun ad σ H ok Q q => h1 ad σ H ok _ fun H2 e2 => by
  cases a with
  | true =>
    show Q true H2
    exact q H2 e2
  | false =>
    show tu σ H2 Q
    exact h2 rfl ad σ H2 (ok.ext e2) Q fun H3 e3 => q H3 (e2.trans e3)
theorem et_not {a : Bool} (h1 : EvT c env os tt a) : EvT c env os (tNot tt) (!a) := fun ad σ H ok Q q => h1 ad σ H ok _ fun H2 e2 => q H2 e2
theorem ex_and {a b : Bool} (h1 : EvX true c env os ta (.bool a)) (h2 : a = true → EvX true c env os tb (.bool b)) : EvX w c env os (tAndV ta tb) (.bool (a && b)) := fun ad σ H ok Q q => h1 ad σ H ok _ fun v H2 e2 r2 => ⟨a, dn_bool r2, by
  cases a with
  | true =>
    rw [if_pos rfl]
    exact h2 rfl ad σ H2 (ok.ext e2) Q fun u H3 e3 r3 => q u H3 (e2.trans e3) (by cases r3; exact .bl _)
  | false =>
    rw [if_neg (by decide)]
    exact q _ H2 e2 (.bl _)⟩
theorem ex_or {a b : Bool} (h1 : EvX true c env os ta (.bool a)) (h2 : a = false → EvX true c env os tb (.bool b)) : EvX w c env os (tOrV ta tb) (.bool (a || b)) := fun ad σ H ok Q q => h1 ad σ H ok _ fun v H2 e2 r2 => ⟨a, dn_bool r2, by
  cases a with
  | true =>
    rw [if_pos rfl]
    exact q _ H2 e2 (.bl _)
  | false =>
    rw [if_neg (by decide)]
    exact h2 rfl ad σ H2 (ok.ext e2) Q fun u H3 e3 r3 => q u H3 (e2.trans e3) (by cases r3; exact .bl _)⟩
theorem ex_not {a : Bool} (h1 : EvX true c env os ta (.bool a)) : EvX w c env os (tNotV ta) (.bool (!a)) := fun ad σ H ok Q q => h1 ad σ H ok _ fun v H2 e2 r2 => ⟨a, dn_bool r2, q _ H2 e2 (.bl _)⟩
theorem ex_if {b : Bool} (h : EvT c env os tt b) (h1 : b = true → EvX w c env os ta d) (h2 : b = false → EvX w c env os tb d) : EvX w c env os (tIf tt ta tb) d := fun ad σ H ok Q q => h ad σ H ok _ fun H2 e2 => by
  cases b with
  | true =>
    show ta σ H2 Q
    exact h1 rfl ad σ H2 (ok.ext e2) Q fun v H3 e3 => q v H3 (e2.trans e3)
  | false =>
    show tb σ H2 Q
    exact h2 rfl ad σ H2 (ok.ext e2) Q fun v H3 e3 => q v H3 (e2.trans e3)
/-- the truth of a list -/
theorem et_truL {r : V → Hp → (Bool → Hp → Prop) → Prop} {ss : List SV} (hr : r = fun x H Q => ∃ k, TruV c.K x H k ∧ Q k H) (h : EvI c env os te ss) : EvT c env os (fun σ H Q => te σ H fun x H' => r x H' Q) (!ss.isEmpty) := fun ad σ H ok Q q => by
  subst hr
  refine h ad σ H ok _ fun p vs H2 e s r => ⟨!ss.isEmpty, Or.inl ⟨vs, s, ?_⟩, q H2 e⟩
  cases r <;> rfl

/-! ### argument lists -/
theorem ea_nil : EvA w c env os tNil [] := fun ad σ H ok Q q => q [] H (Ex.refl H) .nil
theorem ea_cons {tr : TA} {ds : List PyData} (h : EvX w c env os te d) (hr : EvA w c env os tr ds) : EvA w c env os (tCons te tr) (d :: ds) := fun ad σ H ok Q q =>
  h ad σ H ok _ fun v H2 e2 r2 => hr ad σ H2 (ok.ext e2) _ fun vs H3 e3 r3 => q _ H3 (e2.trans e3) (.cons (r2.ext e3) r3)
theorem eas_nil : EvAS c env os tNil [] := fun ad σ H ok Q q => q [] H (Ex.refl H) .nil
theorem eas_cons {tr : TA} {s : SV} {ss : List SV} (h : EvS c env os te s) (hr : EvAS c env os tr ss) : EvAS c env os (tCons te tr) (s :: ss) := fun ad σ H ok Q q => by
  cases s with
  | i d => exact (show EvX false c env os te d from h) ad σ H ok _ fun v H2 e2 r2 => hr ad σ H2 (ok.ext e2) _ fun vs H3 e3 r3 => q _ H3 (e2.trans e3) (.cons (show Dn _ _ _ _ _ by rw [Nw_false] at r2; exact r2.ext e3) r3)
  | t ks => exact (show EvK c env os te ks from h).2 ad σ H ok _ fun b H2 e2 r2 => hr ad σ H2 (ok.ext e2) _ fun vs H3 e3 r3 => q _ H3 (e2.trans e3) (.cons ⟨b, rfl, e3 _ _ r2, (show EvK c env os te ks from h).1⟩ r3)
  | ob C m => exact (show EvB c env os te C m from h) ad σ H ok _ fun v H2 e2 r2 => hr ad σ H2 (ok.ext e2) _ fun vs H3 e3 r3 => q _ H3 (e2.trans e3) (.cons (ObOk.ext e3 r2) r3)
  | r k =>
    obtain ⟨hk, h⟩ := (show EvR c env os te k from h)
    exact h ad σ H ok _ fun H2 e2 => hr ad σ H2 (ok.ext e2) _ fun vs H3 e3 r3 => q _ H3 (e2.trans e3) (.cons ⟨rfl, hk⟩ r3)
theorem EvA.ss {ta : TA} {ds : List PyData} (h : EvA false c env os ta ds) : EvAS c env os ta (ds.map SV.i) := fun ad σ H ok Q q => h ad σ H ok Q fun vs H2 e r => q vs H2 e (by rw [Nw_false] at r; exact dn_paired r)

/-! ### displays -/
theorem ex_tup {ta : TA} {ds : List PyData} (h : EvA w c env os ta ds) (hl : ds.length ≤ 100000) : EvX w c env os (tTup ta) (.tuple ds) := fun ad σ H ok Q q =>
  h ad σ H ok _ fun vs H2 e r => ⟨Nat.le_trans (by rw [r.length]; exact hl) (by decide), fun p hp => q _ _ (e.trans (Ex.new hp)) (.tup (SqT.of upd_same) (r.ext (Ex.new hp)))⟩
theorem ef_lst {ta : TA} {ss : List SV} (h : EvAS c env os ta ss) (hl : ss.length ≤ 100000) : EvF c env os (tLst ta) (.lst ss) := fun ad σ H ok Q q =>
  h ad σ H ok _ fun vs H2 e r => ⟨Nat.le_trans (by rw [Paired.length r]; exact hl) (by decide), fun p hp => q p _ (e.free hp) (e.trans (Ex.new hp)) ⟨vs, upd_same, Paired.imp r fun v s z => by
    cases s with
    | i d => exact (Dn.add hp z).ext (Ex.new hp)
    | t ks => obtain ⟨b, e1, e2⟩ := z; exact ⟨b, e1, Ex.new hp _ _ e2.1, e2.2⟩
    | ob C m => exact (ObOk.add hp z).ext (Ex.new hp)
    | r k => exact z⟩⟩

/-! ### subscripts -/
theorem ex_ixT {tb : TE} {ds : List PyData} {i : Int} (h : EvX w c env os ta (.tuple ds)) (hi : EvX true c env os tb (.int i)) (hd : atI ds i = some d) : EvX w c env os (tOp (rIxT c.K) ta tb) d := fun ad σ H ok Q q =>
  h ad σ H ok _ fun v H1 e1 r1 => hi ad σ H1 (ok.ext e1) _ fun u H2 e2 r2 => by
    have r1' := r1.ext e2
    cases dn_int r2
    cases r1' with
    | tup r a =>
      obtain ⟨j, z1, z2⟩ : ∃ j, ixN ds.length i = some j ∧ ds[j]? = some d := by
        unfold atI at hd
        cases hx : ixN ds.length i with
        | none => rw [hx] at hd; cases hd
        | some j => rw [hx] at hd; exact ⟨j, rfl, hd⟩
      obtain ⟨v, y1, y2⟩ := a.get z2
      refine ⟨_, _, i, v, rfl, rfl, r, ?_, q v H2 (e1.trans e2) y2⟩
      unfold atI
      rw [a.length, z1]
      exact y1
theorem paired_get {α β : Type} {F : α → β → Prop} : ∀ {l₁ : List α} {l₂ : List β} {i : Nat} {b : β}, Paired F l₁ l₂ → l₂[i]? = some b → ∃ a, l₁[i]? = some a ∧ F a b
  | _, _, _, _, .nil, e => by simp at e
  | _, _, 0, _, .cons r _, e => by simp at e; subst e; exact ⟨_, rfl, r⟩
  | _, _, i + 1, _, .cons _ t, e => by
    obtain ⟨v, h1, h2⟩ := paired_get (i := i) t (by simpa using e)
    exact ⟨v, by simpa using h1, h2⟩
theorem paired_getL {α β : Type} {F : α → β → Prop} : ∀ {l₁ : List α} {l₂ : List β} {i : Nat} {a : α}, Paired F l₁ l₂ → l₁[i]? = some a → ∃ b, l₂[i]? = some b ∧ F a b
  | _, _, _, _, .nil, e => by simp at e
  | _, _, 0, _, .cons r _, e => by simp at e; subst e; exact ⟨_, rfl, r⟩
  | _, _, i + 1, _, .cons _ t, e => by
    obtain ⟨v, h1, h2⟩ := paired_getL (i := i) t (by simpa using e)
    exact ⟨v, by simpa using h1, h2⟩
theorem paired_at {α β : Type} {F : α → β → Prop} {l₁ : List α} {l₂ : List β} {i : Int} {b : β} (p : Paired F l₁ l₂) (h : atI l₂ i = some b) : ∃ a, atI l₁ i = some a ∧ F a b := by
  unfold atI at h
  cases hx : ixN l₂.length i with
  | none => rw [hx] at h; cases h
  | some j =>
    rw [hx] at h
    obtain ⟨a, h1, h2⟩ := paired_get p (show l₂[j]? = some b from h)
    refine ⟨a, ?_, h2⟩
    unfold atI
    rw [Paired.length p, hx]
    exact h1
/-- xs[i] of a list -/
theorem ex_ixL {tb : TE} {ss : List SV} {i : Int} (h : EvI c env os ta ss) (hi : EvX true c env os tb (.int i)) (hd : atI ss i = some (.i d)) : EvX w c env os (tOp (rIxL c.K) ta tb) d := EvX.weak fun ad σ H ok Q q =>
  h ad σ H ok _ fun p vs H1 e1 s1 r1 => hi ad σ H1 (ok.ext e1) _ fun u H2 e2 r2 => by
    cases dn_int r2
    obtain ⟨v, h1, h2⟩ := paired_at r1 hd
    exact ⟨p, vs, i, v, rfl, rfl, e2.sql s1, h1, q v H2 (e1.trans e2) (by rw [Nw_false]; exact Dn.ext e2 h2)⟩
/-- .. of data, told weakly -/
theorem ex_ixLD {tb : TE} {ds : List PyData} {i : Int} (h : EvX w c env os ta (.list ds)) (hi : EvX true c env os tb (.int i)) (hd : atI ds i = some d) : EvX w c env os (tOp (rIxL c.K) ta tb) d := fun ad σ H ok Q q =>
  h ad σ H ok _ fun v H1 e1 r1 => hi ad σ H1 (ok.ext e1) _ fun u H2 e2 r2 => by
    have r1' := r1.ext e2
    cases dn_int r2
    obtain ⟨j, z1, z2⟩ : ∃ j, ixN ds.length i = some j ∧ ds[j]? = some d := by
      unfold atI at hd
      cases hx : ixN ds.length i with
      | none => rw [hx] at hd; cases hd
      | some j => rw [hx] at hd; exact ⟨j, rfl, hd⟩
    cases r1' with
    | lst r n a =>
      obtain ⟨v, y1, y2⟩ := a.get z2
      refine ⟨_, _, i, v, rfl, rfl, Or.inl r, ?_, q v H2 (e1.trans e2) y2⟩
      unfold atI
      rw [a.length, z1]
      exact y1
    | lstK r a =>
      obtain ⟨v, y1, y2⟩ := a.get z2
      refine ⟨_, _, i, v, rfl, rfl, Or.inr r, ?_, q v H2 (e1.trans e2) y2⟩
      unfold atI
      rw [a.length, z1]
      exact y1
theorem eo_none : EvO c env os tNoPart none := fun ad σ H ok Q q => q H (Ex.refl H)
theorem eo_some {i : Int} (h : EvX true c env os te (.int i)) : EvO c env os (tPart te) (some i) := fun ad σ H ok Q q => h ad σ H ok _ fun v H2 e r => ⟨i, dn_int r, q H2 e⟩
def cutG {α : Type} (xs : List α) (lo hi : Option Int) : List α := (xs.drop (HT.sIx xs.length 0 lo)).take (HT.sIx xs.length xs.length hi - HT.sIx xs.length 0 lo)
theorem Paired.drop {α β : Type} {F : α → β → Prop} : ∀ {l₁ : List α} {l₂ : List β} (n : Nat), Paired F l₁ l₂ → Paired F (l₁.drop n) (l₂.drop n)
  | _, _, 0, r => r
  | _, _, _ + 1, .nil => .nil
  | _, _, n + 1, .cons _ t => Paired.drop n t
theorem Paired.take {α β : Type} {F : α → β → Prop} : ∀ {l₁ : List α} {l₂ : List β} (n : Nat), Paired F l₁ l₂ → Paired F (l₁.take n) (l₂.take n)
  | _, _, 0, r => .nil
  | _, _, _ + 1, .nil => .nil
  | _, _, n + 1, .cons r t => .cons r (Paired.take n t)
theorem ef_slice {tl th : TO} {ss : List SV} {lo hi : Option Int} (h : EvI c env os te ss) (h1 : EvO c env os tl lo) (h2 : EvO c env os th hi) : EvF c env os (tSl (rSlL c.K) te tl th) (.lst (cutG ss lo hi)) := fun ad σ H ok Q q =>
  h ad σ H ok _ fun p vs H1 e1 s1 r1 => h1 ad σ H1 (ok.ext e1) _ fun H2 e2 => h2 ad σ H2 ((ok.ext e1).ext e2) _ fun H3 e3 =>
    ⟨p, vs, rfl, (e2.trans e3).sql s1, fun l hl => q l _ (((e1.trans e2).trans e3).free hl) (((e1.trans e2).trans e3).trans (Ex.new hl)) ⟨cutV vs lo hi, upd_same, by
      have r2 : Paired (SvOk c.K (Nof c ad os) ad os.length H3) (cutV vs lo hi) (cutG ss lo hi) := by
        unfold cutV cutG
        rw [Paired.length r1]
        exact Paired.take _ (Paired.drop _ (Paired.imp r1 fun _ _ z => z.ext (e2.trans e3)))
      exact Paired.imp r2 fun v s z => by
        cases s with
        | i d => exact (Dn.add hl z).ext (Ex.new hl)
        | t ks => obtain ⟨b, e1, e2⟩ := z; exact ⟨b, e1, Ex.new hl _ _ e2.1, e2.2⟩
        | ob C m => exact (ObOk.add hl z).ext (Ex.new hl)
        | r k => exact z⟩⟩

/-! ### built-ins -/
theorem ex_len {r : List V → Hp → VK → Prop} {ss : List SV} (hr : r = fun xs H Q => ∃ p ys, xs = [.ref p] ∧ (SqL c.K H p ys ∨ SqT c.K H p ys) ∧ Q (.int ys.length) H) (h : EvI c env os te ss) : EvX w c env os (tCB r (tCons te tNil)) (.int (ss.length : Int)) := fun ad σ H ok Q q => by
  subst hr
  refine h ad σ H ok _ fun p vs H2 e s r => ⟨p, vs, rfl, Or.inl s, ?_⟩
  rw [Paired.length r]
  exact q _ H2 e (.int _)
theorem ex_lenT {r : List V → Hp → VK → Prop} {ds : List PyData} (hr : r = fun xs H Q => ∃ p ys, xs = [.ref p] ∧ (SqL c.K H p ys ∨ SqT c.K H p ys) ∧ Q (.int ys.length) H) (h : EvX true c env os te (.tuple ds)) : EvX w c env os (tCB r (tCons te tNil)) (.int (ds.length : Int)) := fun ad σ H ok Q q => by
  subst hr
  refine h ad σ H ok _ fun v H2 e s => ?_
  cases s with
  | tup s a =>
    refine ⟨_, _, rfl, Or.inr s, ?_⟩
    rw [a.length]
    exact q _ H2 e (.int _)
theorem ef_list {r : List V → Hp → VK → Prop} {ss : List SV} (hr : r = fun xs H Q => ∃ p ys, xs = [.ref p] ∧ (SqL c.K H p ys ∨ SqT c.K H p ys) ∧ ∀ l, H l = none → Q (.ref l) (upd H l (.lst ys))) (h : EvI c env os te ss) : EvF c env os (tCB r (tCons te tNil)) (.lst ss) := fun ad σ H ok Q q => by
  subst hr
  refine h ad σ H ok _ fun p vs H2 e s r => ⟨p, vs, rfl, Or.inl s, fun l hl => q l _ (e.free hl) (e.trans (Ex.new hl)) ⟨vs, upd_same, Paired.imp r fun v s z => by
    cases s with
    | i d => exact (Dn.add hl z).ext (Ex.new hl)
    | t ks => obtain ⟨b, e1, e2⟩ := z; exact ⟨b, e1, Ex.new hl _ _ e2.1, e2.2⟩
    | ob C m => exact (ObOk.add hl z).ext (Ex.new hl)
    | r k => exact z⟩⟩
/-- a built-in of ints -/
theorem ex_cb {r : List V → Hp → VK → Prop} {ta : TA} {ds : List PyData} (h : EvA w c env os ta ds) (hr : ∀ ad H vs, DnAll c.K (Nw w c ad os) H vs ds → ∀ Q : VK, (∀ v, Dn c.K (Nw w c ad os) H v d → Q v H) → r vs H Q) : EvX w c env os (tCB r ta) d := fun ad σ H ok Q q =>
  h ad σ H ok _ fun vs H2 e a => hr ad H2 vs a Q fun v z => q v H2 e z
theorem ex_int1 {r : List V → Hp → VK → Prop} {i : Int} (hr : r = fun xs H Q => (∃ i, xs = [.int i] ∧ Q (.int i) H) ∨ ∃ k, xs = [.bl k] ∧ Q (.int (if k then 1 else 0)) H) (h : EvX true c env os te (.int i)) : EvX w c env os (tCB r (tCons te tNil)) (.int i) := fun ad σ H ok Q q => by
  subst hr
  exact h ad σ H ok _ fun v H2 e a => Or.inl ⟨i, by rw [dn_int a], q _ H2 e (.int i)⟩
theorem ex_max2 {r : List V → Hp → VK → Prop} {i j : Int} (hr : r = fun xs H Q => ∃ i j, xs = [.int i, .int j] ∧ Q (.int (if j > i then j else i)) H) (ha : EvX true c env os ta (.int i)) (hb : EvX true c env os tb (.int j)) : EvX w c env os (tCB r (tCons ta (tCons tb tNil))) (.int (max i j)) := fun ad σ H ok Q q => by
  subst hr
  refine ha ad σ H ok _ fun v H1 e1 a => hb ad σ H1 (ok.ext e1) _ fun u H2 e2 b => ⟨i, j, by rw [dn_int a, dn_int b], q _ H2 (e1.trans e2) ?_⟩
  have : (if j > i then j else i) = max i j := by split <;> omega
  rw [this]
  exact .int _
theorem ex_min2 {r : List V → Hp → VK → Prop} {i j : Int} (hr : r = fun xs H Q => ∃ i j, xs = [.int i, .int j] ∧ Q (.int (if j < i then j else i)) H) (ha : EvX true c env os ta (.int i)) (hb : EvX true c env os tb (.int j)) : EvX w c env os (tCB r (tCons ta (tCons tb tNil))) (.int (min i j)) := fun ad σ H ok Q q => by
  subst hr
  refine ha ad σ H ok _ fun v H1 e1 a => hb ad σ H1 (ok.ext e1) _ fun u H2 e2 b => ⟨i, j, by rw [dn_int a, dn_int b], q _ H2 (e1.trans e2) ?_⟩
  have : (if j < i then j else i) = min i j := by split <;> omega
  rw [this]
  exact .int _
/-- xs + ys, both new -/
theorem ef_cat {ss us : List SV} (ha : EvF c env os ta (.lst ss)) (hb : EvF c env os tb (.lst us)) (hl : ss.length + us.length ≤ 100000) : EvF c env os (tOp rCat ta tb) (.lst (ss ++ us)) := fun ad σ H ok Q q => by
  refine ha ad σ H ok _ fun a H1 pa e1 r1 => hb ad σ H1 (ok.ext e1) _ fun b H2 pb e2 r2 => ?_
  obtain ⟨xs, s1, r1⟩ := r1
  obtain ⟨ys, s2, r2⟩ := r2
  refine ⟨a, b, xs, ys, rfl, rfl, e2 _ _ s1, s2, ?_, fun p hp => q p _ ((e1.trans e2).free hp) ((e1.trans e2).trans (Ex.new hp)) ⟨xs ++ ys, upd_same, ?_⟩⟩
  · rw [Paired.length r1, Paired.length r2]; exact Nat.le_trans hl (by decide)
  · have app : ∀ {l1 : List V} {m1 : List SV} {l2 : List V} {m2 : List SV}, Paired (SvOk c.K (Nof c ad os) ad os.length H2) l1 m1 → Paired (SvOk c.K (Nof c ad os) ad os.length H2) l2 m2 → Paired (SvOk c.K (Nof c ad os) ad os.length H2) (l1 ++ l2) (m1 ++ m2) := by
      intro l1 m1 l2 m2 p q
      induction p with
      | nil => exact q
      | cons r t ih => exact .cons r ih
    exact Paired.imp (app (Paired.imp r1 fun _ _ z => (z.sub fun a y => Or.inl y).ext e2) (Paired.imp r2 fun _ _ z => z.sub fun a y => Or.inl y)) fun v s z => by
      cases s with
      | i d => exact (Dn.add hp z).ext (Ex.new hp)
      | t ks => obtain ⟨b, e1, e2⟩ := z; exact ⟨b, e1, Ex.new hp _ _ e2.1, e2.2⟩
      | ob C m => exact (ObOk.add hp z).ext (Ex.new hp)
      | r k => exact z
end

/-! ### promises -/
/-- data in, data out; nothing that stands is changed -/
def spD (K : PySem.W.Frag) (R : List PyData → PyData → Prop) : Sp := fun vs H Q _ => ∃ (N : Addr → Prop) (ds : List PyData) (d : PyData), (∀ a, N a → H a ≠ none) ∧ DnAll K N H vs ds ∧ R ds d ∧ ∀ v H', Ex H H' → Dn K N H' v d → Q v H'
/-- data in, a new list of data out -/
def spF (K : PySem.W.Frag) (R : List PyData → List PyData → Prop) : Sp := fun vs H Q _ => ∃ (N : Addr → Prop) (ds : List PyData) (rs : List PyData), (∀ a, N a → H a ≠ none) ∧ DnAll K N H vs ds ∧ R ds rs ∧
  ∀ p H' ws, H p = none → Ex H H' → H' p = some (.lst ws) → DnAll K (fun a => N a ∨ a = p) H' ws rs → Q (.ref p) H'
section
variable {w : Bool} {c : Cn} {env : Sy} {os : List SO} {te : TE} {ta : TA} {d : PyData}
theorem ex_call {R : List PyData → PyData → Prop} {E : XK} {ds : List PyData} (h : EvA w c env os ta ds) (hR : R ds d) : EvX w c env os (tCall (spD c.K R) [] E ta) d := fun ad σ H ok Q q =>
  h ad σ H ok _ fun vs H2 e a => by
    rw [List.append_nil]
    exact ⟨Nw w c ad os, ds, d, fun b z => (ok.ext e).nof (Nw_le b z), a, hR, fun v H' e' r => q v H' (e.trans e') r⟩
theorem ef_call {R : List PyData → List PyData → Prop} {E : XK} {ds rs : List PyData} (h : EvA false c env os ta ds) (hR : R ds rs) : EvF c env os (tCall (spF c.K R) [] E ta) (.lst (rs.map SV.i)) := fun ad σ H ok Q q =>
  h ad σ H ok _ fun vs H2 e a => by
    rw [List.append_nil]
    rw [Nw_false] at a
    exact ⟨Nof c ad os, ds, rs, fun b z => (ok.ext e).nof z, a, hR, fun p H' ws hp e' h1 h2 => q p H' (e.free hp) (e.trans e') ⟨ws, h1, dn_paired h2⟩⟩
/-- .. where an argument is a list of the store: told where the answer has no list in its items -/
theorem ef_callW {R : List PyData → List PyData → Prop} {E : XK} {ds rs : List PyData} (h : EvA true c env os ta ds) (hR : R ds rs) (hn : noLists rs = true) : EvF c env os (tCall (spF c.K R) [] E ta) (.lst (rs.map SV.i)) := fun ad σ H ok Q q =>
  h ad σ H ok _ fun vs H2 e a => by
    rw [List.append_nil]
    exact ⟨Nw true c ad os, ds, rs, fun b z => (ok.ext e).nof (Nw_le b z), a, hR, fun p H' ws hp e' h1 h2 => q p H' (e.free hp) (e.trans e') ⟨ws, h1, dn_paired (DnAll.goF (fun _ _ r => r) rs ws hn h2)⟩⟩
end

/-! ### statements -/
def Go (c : Cn) (env : Sy) (os : List SO) (t : TS) (D : Ends) : Prop := ∀ ad σ H, Ok c ad env os σ H → t D σ H
def Ret (c : Cn) (d : PyData) (D : Ends) : Prop := ∀ v H2, (∀ a o, c.H0 a = some o → ¬ c.M a → H2 a = some o) → Dn c.K c.N0 H2 v d → D.rt v H2
def RetF (c : Cn) (ds : List PyData) (D : Ends) : Prop := ∀ p H2 ws, c.H0 p = none → (∀ a o, c.H0 a = some o → ¬ c.M a → H2 a = some o) → H2 p = some (.lst ws) → DnAll c.K (fun a => c.N0 a ∨ a = p) H2 ws ds → D.rt (.ref p) H2
/-- such a state -/
def OkE (c : Cn) (env : Sy) (os : List SO) : St → Hp → Prop := fun σ H => ∃ ad, Ok c ad env os σ H
/-- a target takes a value -/
def Tg (c : Cn) (env : Sy) (os : List SO) (g : TG) (s : SV) (env' : Sy) (js : List Nat) : Prop := ∀ ad σ H v, Ok c ad env os σ H → SvOk c.K (Nof c ad os) ad os.length H v s → ∀ Q : St → Hp → Prop,
  (∀ σ', Ok c ad env' os σ' H → (∀ vs : List Nat, (∀ j ∈ js, j ∈ vs) → wipe σ' vs = wipe σ vs) → Q σ' H) → g v σ H Q
def Tgs (c : Cn) (env : Sy) (os : List SO) (g : TGs) (ds : List PyData) (env' : Sy) (js : List Nat) : Prop := ∀ ad σ H vs, Ok c ad env os σ H → DnAll c.K (Nof c ad os) H vs ds → ∀ Q : St → Hp → Prop,
  (∀ σ', Ok c ad env' os σ' H → (∀ vs : List Nat, (∀ j ∈ js, j ∈ vs) → wipe σ' vs = wipe σ vs) → Q σ' H) → g vs σ H Q
theorem wipe_set {σ : St} {j : Nat} {x : Option V} : ∀ {vs : List Nat}, j ∈ vs → wipe (σ.set j x) vs = wipe σ vs
  | v :: vs, h => by
    show (wipe (σ.set j x) vs).set v none = (wipe σ vs).set v none
    by_cases hj : j ∈ vs
    · rw [wipe_set hj]
    · have e : j = v := by
        rcases List.mem_cons.mp h with z | z
        · exact z
        · exact absurd z hj
      subst e
      have key : ∀ us : List Nat, j ∉ us → wipe (σ.set j x) us = (wipe σ us).set j x := by
        intro us
        induction us with
        | nil => intro _; rfl
        | cons u us ih =>
          intro hu
          have h1 : j ≠ u := fun z => hu (z ▸ List.mem_cons_self ..)
          have h2 : j ∉ us := fun z => hu (List.mem_cons_of_mem _ z)
          show (wipe (σ.set j x) us).set u none = ((wipe σ us).set u none).set j x
          rw [ih h2, List.set_comm _ _ h1]
      rw [key vs hj, List.set_set]
section
variable {w : Bool} {c : Cn} {env env' env'' : Sy} {os : List SO} {te ta tl : TE} {d : PyData} {g : TG} {u t v : TS} {D : Ends} {tt : TT}
theorem tg_name {j : Nat} {s : SV} : Tg c env os (gName j) s (env.set j (some s)) [j] := fun ad σ H v ok h Q q => q _ (ok.set h) fun vs hv => wipe_set (hv j (List.mem_cons_self ..))
theorem tgs_nil : Tgs c env os gNil [] env [] := fun ad σ H vs ok h Q q => by
  cases h
  exact ⟨rfl, q σ ok fun _ _ => rfl⟩
theorem tgs_cons {gs : TGs} {ds : List PyData} {js ks : List Nat} (h1 : Tg c env os g (.i d) env' js) (h2 : Tgs c env' os gs ds env'' ks) : Tgs c env os (gCons g gs) (d :: ds) env'' (js ++ ks) := fun ad σ H vs ok h Q q => by
  cases h with
  | cons a b =>
    refine ⟨_, _, rfl, h1 ad σ H _ ok a _ fun σ' ok' hw => h2 ad σ' H _ ok' b _ fun σ'' ok'' hw' => q σ'' ok'' fun vs hv => ?_⟩
    rw [hw' vs fun j hj => hv j (List.mem_append_right _ hj), hw vs fun j hj => hv j (List.mem_append_left _ hj)]
theorem tg_tup {gs : TGs} {ds : List PyData} {n : Nat} {js : List Nat} (h : Tgs c env os gs ds env' js) (hn : ds.length = n) : Tg c env os (gTup c.K n gs) (.i (.tuple ds)) env' js := fun ad σ H v ok r Q q => by
  cases (show Dn _ _ _ _ _ from r) with
  | tup r' a => exact ⟨_, _, rfl, r', a.length.trans hn, h ad σ H _ ok a Q q⟩
theorem gs_asg {i : Nat} (h : EvX false c env os te d) (k : Go c (env.set i (some (.i d))) os u D) : Go c env os (tSeq (tAsg te (gName i)) u) D := fun ad σ H ok =>
  h ad σ H ok _ fun v H2 e r => k ad _ H2 ((ok.ext e).set (by rw [Nw_false] at r; exact r))
theorem gs_asgF {i : Nat} {o : SO} (h : EvF c env os te o) (k : Go c (env.set i (some (.r os.length))) (os ++ [o]) u D) : Go c env os (tSeq (tAsg te (gName i)) u) D := fun ad σ H ok =>
  h ad σ H ok _ fun p H2 hp e r => by
    have h0 : c.H0 p = none ∨ c.M p := by
      by_cases hm : c.M p
      · exact Or.inr hm
      · refine Or.inl ?_
        cases hz : c.H0 p with
        | none => rfl
        | some o => rw [ok.ex p o hz hm] at hp; cases hp
    have ok2 := ok.new hp e h0 r
    refine k _ _ H2 (ok2.set (v := .ref p) (s := .r os.length) ⟨congrArg V.ref adN_same.symm, by simp⟩)
theorem gs_asgR {i k : Nat} (h : EvR c env os te k) (kk : Go c (env.set i (some (.r k))) os u D) : Go c env os (tSeq (tAsg te (gName i)) u) D := fun ad σ H ok =>
  h.2 ad σ H ok _ fun H2 e => kk ad _ H2 ((ok.ext e).set ⟨rfl, h.1⟩)
theorem gs_asgT {js : List Nat} (h : EvX false c env os te d) (ht : Tg c env os g (.i d) env' js) (k : Go c env' os u D) : Go c env os (tSeq (tAsg te g) u) D := fun ad σ H ok =>
  h ad σ H ok _ fun v H2 e r => ht ad σ H2 v (ok.ext e) (by rw [Nw_false] at r; exact r) _ fun σ' ok' _ => k ad σ' H2 ok'
theorem gs_if {b : Bool} (h : EvT c env os tt b) (h1 : b = true → Go c env os t { D with nx := u D }) (h2 : b = false → Go c env os v { D with nx := u D }) : Go c env os (tSeq (tIfS tt t v) u) D := fun ad σ H ok =>
  h ad σ H ok _ fun H2 e => by
    cases b with
    | true => exact h1 rfl ad σ H2 (ok.ext e)
    | false => exact h2 rfl ad σ H2 (ok.ext e)
theorem g_next (h : ∀ ad σ H, Ok c ad env os σ H → D.nx σ H) : Go c env os tNext D := h
theorem g_nextU (h : Go c env os u D) : Go c env os tNext { D with nx := u D } := h
/-- a join behind an if -/
theorem gs_cut {os' : List SO} (h1 : Go c env os t { D with nx := OkE c env' os' }) (h2 : Go c env' os' u D) : Go c env os (Evl.tCut t u) D := fun ad σ H ok =>
  ⟨OkE c env' os', h1 ad σ H ok, fun σ' H' ⟨ad', ok'⟩ => h2 ad' σ' H' ok'⟩
theorem gs_ret (h : EvX true c env os te d) (k : Ret c d D) : Go c env os (tSeq (tRet te) u) D := fun ad σ H ok =>
  h ad σ H ok _ fun v H2 e r => k v H2 (ok.ext e).ex (r.sub fun a z => Or.inl z)
theorem gs_retF {ds : List PyData} (h : EvF c env os te (.lst (ds.map SV.i))) (hM : ∀ a, ¬ c.M a) (k : RetF c ds D) : Go c env os (tSeq (tRet te) u) D := fun ad σ H ok =>
  h ad σ H ok _ fun p H2 hp e r => by
    obtain ⟨vs, h1, h2⟩ := r
    refine k p H2 vs ?_ (ok.ext e).ex h1 ((paired_dn h2).sub fun a z => z.elim (fun y => Or.inl (Or.inl y)) Or.inr)
    cases hz : c.H0 p with
    | none => rfl
    | some o => rw [ok.ex p o hz (hM p)] at hp; cases hp
theorem gs_retO {k : Nat} {ds : List PyData} (h : EvR c env os te k) (hk : os[k]? = some (.lst (ds.map SV.i))) (hM : ∀ a, ¬ c.M a) (q : RetF c ds D) : Go c env os (tSeq (tRet te) u) D := fun ad σ H ok =>
  h.2 ad σ H ok _ fun H2 e => by
    have ok2 := ok.ext e
    obtain ⟨h0, vs, h1, h2⟩ := ok2.obj k _ hk rfl
    refine q (ad k) H2 vs (h0.resolve_right (hM _)) ok2.ex h1 ((paired_dn h2).sub fun a z => ?_)
    rcases z with z | z
    · exact Or.inl z
    · exact Or.inr ⟨k, ⟨_, hk, rfl⟩, z⟩
theorem gs_drop (h : EvX w c env os te d) (k : Go c env os u D) : Go c env os (tSeq (tDrop te) u) D := fun ad σ H ok => h ad σ H ok _ fun v H2 e r => k ad σ H2 (ok.ext e)
theorem paired_snoc {α β : Type} {F : α → β → Prop} {a : α} {b : β} : ∀ {l₁ : List α} {l₂ : List β}, Paired F l₁ l₂ → F a b → Paired F (l₁ ++ [a]) (l₂ ++ [b])
  | _, _, .nil, h => .cons h .nil
  | _, _, .cons r t, h => .cons r (paired_snoc t h)
/-- xs.append(e) -/
theorem gs_app {k : Nat} {ss : List SV} {s : SV} (hl : EvR c env os tl k) (hk : os[k]? = some (.lst ss)) (h : EvS c env os te s) (hz : ss.length < 100000) (kk : Go c env (os.set k (.lst (ss ++ [s]))) u D) : Go c env os (tSeq (tDrop (tBM c.K "list" rAppend tl (tCons te tNil))) u) D := fun ad σ H ok =>
  hl.2 ad σ H ok _ fun H1 e1 => by
    have ok1 := ok.ext e1
    obtain ⟨_, vs, hvs, pv⟩ := ok1.obj k _ hk rfl
    refine ⟨Or.inl ⟨rfl, vs, SqL.of hvs⟩, ?_⟩
    have fin : ∀ v H2, Ex H1 H2 → SvOk c.K (Nof c ad os) ad os.length H2 v s → tNil σ H2 fun xs H3 => rAppend (.ref (ad k)) (v :: xs) H3 fun _ H4 => u D σ H4 := fun v H2 e2 r => by
      have ok2 := ok1.ext e2
      have hv2 := e2 _ _ hvs
      refine ⟨ad k, vs, v, rfl, rfl, hv2, Nat.lt_of_lt_of_le (by rw [Paired.length pv]; exact hz) (by decide), ?_⟩
      refine kk ad σ _ (ok2.mut hk rfl rfl ⟨vs ++ [v], upd_same, ?_⟩)
      have hN : Nof c ad os (ad k) := Or.inr ⟨k, ⟨_, hk, rfl⟩, rfl⟩
      exact paired_snoc (Paired.imp pv fun _ _ z => (z.ext e2).mut hv2 rfl hN) (r.mut hv2 rfl hN)
    cases s with
    | i d => exact (show EvX false c env os te d from h) ad σ H1 ok1 _ fun v H2 e2 r => fin v H2 e2 (by rw [Nw_false] at r; exact r)
    | t ks => exact (show EvK c env os te ks from h).2 ad σ H1 ok1 _ fun b H2 e2 r => fin _ H2 e2 ⟨b, rfl, r, (show EvK c env os te ks from h).1⟩
    | ob C m => exact (show EvB c env os te C m from h) ad σ H1 ok1 _ fun v H2 e2 r => fin v H2 e2 r
    | r j => exact (show EvR c env os te j from h).2 ad σ H1 ok1 _ fun H2 e2 => fin _ H2 e2 ⟨rfl, (show EvR c env os te j from h).1⟩
/-- x += e, ints -/
theorem gs_aug {i : Nat} {f : Int → Int → Int} {a b : Int} (hx : env[i]? = some (some (.i (.int a)))) (h : EvX true c env os te (.int b)) (k : Go c (env.set i (some (.i (.int (f a b))))) os u D) : Go c env os (tSeq (tAug i te (ipI f)) u) D := fun ad σ H ok => by
  obtain ⟨v, h1, h2⟩ := ok.val i _ hx
  cases dn_int (show Dn _ _ _ _ _ from h2)
  exact ⟨.int a, h1, h ad σ H ok _ fun v H2 e r => ⟨a, b, rfl, dn_int r, k ad _ H2 ((ok.ext e).set (show Dn _ _ _ _ _ from .int _))⟩⟩
/-- less is known -/
theorem gs_weak {os' : List SO} (he : WkE env env') (ho : WkO os os') (l1 : EnLt os'.length env') (l2 : OsLt os'.length os') (l3 : c.lo ≤ os'.length) (k : Go c env' os' u D) : Go c env os u D := fun ad σ H ok => k ad σ H (ok.weak he ho l1 l2 l3)
theorem gs_own {i k : Nat} {ds : List PyData} (hi : env[i]? = some (some (.r k))) (hk : os[k]? = some (.lst (ds.map SV.i))) (kk : Go c (env.set i (some (.i (.list ds)))) (os.set k .x) u D) : Go c env os u D := fun ad σ H ok => kk ad σ H (ok.own hi hk)
/-- the state as it is told elsewhere -/
theorem gs_is {os' : List SO} (h1 : env = env') (h2 : os = os') (k : Go c env' os' u D) : Go c env os u D := by subst h1 h2; exact k
end

/-! ### what is walked -/
structure WalkD (c : Cn) (J : It) (n : Nat) (it : Nat → SV) (G : List SO → Prop) : Prop where
  goes : ∀ i ad env os σ H, i < n → Ok c ad env os σ H → G os → J.go i H
  stops : ∀ ad env os σ H, Ok c ad env os σ H → G os → J.stop n H
  yields : ∀ i ad env os σ H x H', i < n → Ok c ad env os σ H → G os → J.yld i H x H' → Ex H H' ∧ SvOk c.K (Nof c ad os) ad os.length H' x (it i)
/-- wi walks the n things it -/
def EvW (c : Cn) (env : Sy) (os : List SO) (wi : TI) (n : Nat) (it : Nat → SV) (G : List SO → Prop) : Prop := ∀ ad σ H, Ok c ad env os σ H → ∀ R : It → Hp → Prop,
  (∀ J H1 fr, Ex H H1 → Ok (c.w fr os.length) ad env os σ H1 → (∀ ad' env' os' σ' H', Ok (c.w fr os.length) ad' env' os' σ' H' → Ok c ad' env' os' σ' H') → WalkD (c.w fr os.length) J n it G → R J H1) → wi σ H R
/-- what is known outside is known inside -/
def Up (c c' : Cn) : Prop := ∀ ad env os σ H, Ok c' ad env os σ H → Ok c ad env os σ H
section
variable {c : Cn} {env : Sy} {os : List SO} {te tl : TE} {ad : Nat → Addr} {σ : St} {H : Hp}
theorem up_pin (ok : Ok c ad env os σ H) {v : V} {s : SV} : Up c (c.w ((v, s) :: c.fr) os.length) := fun ad' env' os' σ' H' o => ⟨o.len, o.ex, o.n0, o.val, o.obj, o.inj, o.nn, fun p hp => by
  have h1 := o.frm p (List.mem_cons_of_mem _ hp)
  have h2 := ok.frm p hp
  obtain ⟨x, y⟩ := p
  cases y with
  | i d => exact h1
  | t ks => exact h1
  | ob C m => exact h1
  | r k => exact ⟨h1.1, h2.2⟩, Nat.le_trans ok.low o.low⟩
theorem up_pin0 (ok : Ok c ad env os σ H) : Up c (c.w c.fr os.length) := fun ad' env' os' σ' H' o => ⟨o.len, o.ex, o.n0, o.val, o.obj, o.inj, o.nn, fun p hp => by
  have h1 := o.frm p hp
  have h2 := ok.frm p hp
  obtain ⟨x, y⟩ := p
  cases y with
  | i d => exact h1
  | t ks => exact h1
  | ob C m => exact h1
  | r k => exact ⟨h1.1, h2.2⟩, Nat.le_trans ok.low o.low⟩
theorem sql_of_dn {K : PySem.W.Frag} {N : Addr → Prop} {H : Hp} {a : Addr} {ds : List PyData} (h : Dn K N H (.ref a) (.list ds)) : ∃ xs, SqL K H a xs ∧ DnAll K N H xs ds := by
  cases h with
  | lst r n a => exact ⟨_, Or.inl r, a⟩
  | lstK r a => exact ⟨_, Or.inr r, a⟩
theorem dn_list_ref {K : PySem.W.Frag} {N : Addr → Prop} {H : Hp} {v : V} {ds : List PyData} (h : Dn K N H v (.list ds)) : ∃ a, v = .ref a := by cases h <;> exact ⟨_, rfl⟩
theorem dn_tup_ref {K : PySem.W.Frag} {N : Addr → Prop} {H : Hp} {v : V} {ds : List PyData} (h : Dn K N H v (.tuple ds)) : ∃ a xs, v = .ref a ∧ SqT K H a xs ∧ DnAll K N H xs ds := by
  cases h with
  | tup r a => exact ⟨_, _, rfl, r, a⟩
def itD (ds : List PyData) : Nat → SV := fun i => .i (ds.getD i .none)
theorem itD_at {ds : List PyData} {i : Nat} {d : PyData} (h : ds[i]? = some d) : itD ds i = .i d := by
  unfold itD
  rw [List.getD_eq_getElem?_getD, h]
  rfl
/-- a list of data -/
theorem ew_list {ds : List PyData} (h : EvX false c env os tl (.list ds)) : EvW c env os (iList c.K tl) ds.length (itD ds) (fun _ => True) := fun ad σ H ok R q =>
  h ad σ H ok _ fun v H1 e r => by
    rw [Nw_false] at r
    obtain ⟨a, rfl⟩ := dn_list_ref r
    obtain ⟨xs, hs, _⟩ := sql_of_dn r
    refine ⟨a, rfl, ⟨xs, hs⟩, q _ H1 ((.ref a, .i (.list ds)) :: c.fr) e ((ok.ext e).pin r) (up_pin (ok.ext e)) ⟨fun i ad' env' os' σ' H' hi o _ => ?_, fun ad' env' os' σ' H' o _ => ?_, fun i ad' env' os' σ' H' x H'' hi o _ y => ?_⟩⟩
    all_goals
      have r' : Dn c.K (Nof c ad' os') H' (.ref a) (.list ds) := o.frm _ (List.mem_cons_self ..)
      obtain ⟨ys, hy, ay⟩ := sql_of_dn r'
    · exact ⟨ys, ys[i]'(by rw [ay.length]; exact hi), hy, List.getElem?_eq_getElem _⟩
    · exact ⟨ys, hy, by rw [ay.length]; exact Nat.le_refl _⟩
    · obtain ⟨rfl, y⟩ := y
      refine ⟨Ex.refl _, ?_⟩
      obtain ⟨d, h1, h2⟩ := ay.getV (y ys hy)
      rw [itD_at h1]
      exact h2
/-- a list of the store -/
theorem ew_own {k : Nat} {ss : List SV} (h : EvR c env os tl k) (hk : os[k]? = some (.lst ss)) : EvW c env os (iList c.K tl) ss.length (fun i => ss.getD i (.i .none)) (fun os' => os'[k]? = some (.lst ss)) := fun ad σ H ok R q =>
  h.2 ad σ H ok _ fun H1 e => by
    have ok1 := ok.ext e
    obtain ⟨_, vs, h1, _⟩ := ok1.obj k _ hk rfl
    refine ⟨ad k, rfl, ⟨vs, SqL.of h1⟩, q _ H1 ((.ref (ad k), .r k) :: c.fr) e (ok1.pin ⟨rfl, h.1⟩) (up_pin ok1) ⟨fun i ad' env' os' σ' H' hi o g => ?_, fun ad' env' os' σ' H' o g => ?_, fun i ad' env' os' σ' H' x H'' hi o g y => ?_⟩⟩
    all_goals
      have r' := o.frm (.ref (ad k), .r k) (List.mem_cons_self ..)
      have r2 : ad k = ad' k := V.ref.inj r'.1
      obtain ⟨_, ys, hy, ay⟩ := o.obj k _ g rfl
      rw [← r2] at hy
    · exact ⟨ys, ys[i]'(by rw [Paired.length ay]; exact hi), SqL.of hy, List.getElem?_eq_getElem _⟩
    · exact ⟨ys, SqL.of hy, by rw [Paired.length ay]; exact Nat.le_refl _⟩
    · obtain ⟨rfl, y⟩ := y
      refine ⟨Ex.refl _, ?_⟩
      obtain ⟨d, h1, h2⟩ := paired_getL ay (y ys (SqL.of hy))
      rw [List.getD_eq_getElem?_getD, h1]
      exact h2
/-- a tuple -/
theorem ew_tup {ds : List PyData} (h : EvX false c env os tl (.tuple ds)) : EvW c env os (iTup c.K tl) ds.length (itD ds) (fun _ => True) := fun ad σ H ok R q =>
  h ad σ H ok _ fun v H1 e r => by
    rw [Nw_false] at r
    obtain ⟨a, xs, rfl, hs, _⟩ := dn_tup_ref r
    refine ⟨a, rfl, ⟨xs, hs⟩, q _ H1 ((.ref a, .i (.tuple ds)) :: c.fr) e ((ok.ext e).pin r) (up_pin (ok.ext e)) ⟨fun i ad' env' os' σ' H' hi o _ => ?_, fun ad' env' os' σ' H' o _ => ?_, fun i ad' env' os' σ' H' x H'' hi o _ y => ?_⟩⟩
    all_goals
      have r' : Dn c.K (Nof c ad' os') H' (.ref a) (.tuple ds) := o.frm _ (List.mem_cons_self ..)
      obtain ⟨a', ys, ea, hy, ay⟩ := dn_tup_ref r'
      cases ea
    · exact ⟨ys, ys[i]'(by rw [ay.length]; exact hi), hy, List.getElem?_eq_getElem _⟩
    · exact ⟨ys, hy, by rw [ay.length]; exact Nat.le_refl _⟩
    · obtain ⟨rfl, y⟩ := y
      refine ⟨Ex.refl _, ?_⟩
      obtain ⟨d, h1, h2⟩ := ay.getV (y ys hy)
      rw [itD_at h1]
      exact h2
theorem ew_range1 {ta : TA} {n : Int} (h : EvA true c env os ta [.int n]) (hn : -1000000000000 ≤ n ∧ n ≤ 1000000000000) : EvW c env os (iRng1 ta) n.toNat (fun i => .i (.int (i : Int))) (fun _ => True) := fun ad σ H ok R q =>
  h ad σ H ok _ fun vs H1 e r => by
    cases r with
    | cons a b =>
      cases b
      cases dn_int a
      refine ⟨n, rfl, by omega, by omega, q _ H1 c.fr e (ok.ext e).pin0 (up_pin0 (ok.ext e)) ⟨fun i ad' env' os' σ' H' hi o _ => hi, fun ad' env' os' σ' H' o _ => Nat.le_refl _, fun i ad' env' os' σ' H' x H'' hi o _ y => ?_⟩⟩
      obtain ⟨rfl, rfl⟩ := y
      refine ⟨Ex.refl _, ?_⟩
      rw [Int.zero_add]
      exact Dn.int _
theorem ew_range2 {ta : TA} {lo hi : Int} (h : EvA true c env os ta [.int lo, .int hi]) (h1 : -1000000000000000000 ≤ lo ∧ lo ≤ 1000000000000000000) (h2 : -1000000000000000000 ≤ hi ∧ hi ≤ 1000000000000000000) : EvW c env os (iRng2 ta) (hi - lo).toNat (fun i => .i (.int (lo + (i : Int)))) (fun _ => True) := fun ad σ H ok R q =>
  h ad σ H ok _ fun vs H1 e r => by
    cases r with
    | cons a b =>
      cases b with
      | cons a' b' =>
        cases b'
        cases dn_int a
        cases dn_int a'
        refine ⟨lo, hi, rfl, ⟨by omega, by omega, by omega, by omega⟩, q _ H1 c.fr e (ok.ext e).pin0 (up_pin0 (ok.ext e)) ⟨fun i ad' env' os' σ' H' hi o _ => hi, fun ad' env' os' σ' H' o _ => Nat.le_refl _, fun i ad' env' os' σ' H' x H'' hi o _ y => ?_⟩⟩
        obtain ⟨rfl, rfl⟩ := y
        exact ⟨Ex.refl _, Dn.int _⟩
end

/-! ### loops -/
section
variable {c : Cn} {env : Sy} {os : List SO} {g : TG} {tb u : TS} {D : Ends}
/-- a for: E, O the slots and the store by the number of turns done -/
theorem gs_for {wi : TI} {n : Nat} {it : Nat → SV} {G : List SO → Prop} (E : Nat → Sy) (O : Nat → List SO) (hw : EvW c env os wi n it G)
    (h0 : ∀ c' : Cn, c'.lo = os.length → ∀ ad σ H, Ok c' ad env os σ H → Ok c' ad (E 0) (O 0) σ H) (hG : ∀ i, i ≤ n → G (O i))
    (hs : ∀ fr, Up c (c.w fr os.length) → ∀ i, i < n → ∃ env' js, Tg (c.w fr os.length) (E i) (O i) g (it i) env' js ∧ Go (c.w fr os.length) env' (O i) tb { D with nx := OkE (c.w fr os.length) (E (i + 1)) (O (i + 1)), ct := OkE (c.w fr os.length) (E (i + 1)) (O (i + 1)), bk := u D })
    (hd : Go c (E n) (O n) u D) : Go c env os (tSeq (tFor wi g tb) u) D := fun ad σ H ok => by
  refine hw ad σ H ok _ fun J H1 fr e ok1 up W => ?_
  refine ⟨fun i m σ H => m = n - i ∧ i ≤ n ∧ OkE (c.w fr os.length) (E i) (O i) σ H, ⟨n, by simp, Nat.zero_le _, ad, h0 _ rfl ad σ H1 ok1⟩, ?_⟩
  rintro i m σ H ⟨rfl, hi, ad', ok'⟩
  by_cases hlt : i < n
  · refine .inr ⟨W.goes i _ _ _ _ _ hlt ok' (hG i hi), OkE (c.w fr os.length) (E (i + 1)) (O (i + 1)), fun σ' H' p' => ⟨n - (i + 1), by omega, rfl, hlt, p'⟩, fun x H' y => ?_⟩
    obtain ⟨e2, r⟩ := W.yields i _ _ _ _ _ x H' hlt ok' (hG i hi) y
    obtain ⟨env', js, ht, hb⟩ := hs fr up i hlt
    exact ht ad' σ H' x (ok'.ext e2) r _ fun σ2 ok2 _ => hb ad' σ2 H' ok2
  · have q : i = n := by omega
    subst q
    exact .inl ⟨W.stops _ _ _ _ _ ok' (hG i hi), hd ad' σ H (up _ _ _ _ _ ok')⟩
/-- .. over the list of the e x, x in xs; E, O by the part that is done -/
theorem gs_forL {α : Type} {wi : TI} {xs : List α} {e : α → SV} {n : Nat} {it : Nat → SV} {G : List SO → Prop} (E : List α → Sy) (O : List α → List SO) (hw : EvW c env os wi n it G) (hn : n = xs.length) (hit : ∀ i x, xs[i]? = some x → it i = e x)
    (h0 : ∀ c' : Cn, c'.lo = os.length → ∀ ad σ H, Ok c' ad env os σ H → Ok c' ad (E []) (O []) σ H) (hG : ∀ pre post, xs = pre ++ post → G (O pre))
    (hs : ∀ fr, Up c (c.w fr os.length) → ∀ pre x post, xs = pre ++ x :: post → ∃ env' js, Tg (c.w fr os.length) (E pre) (O pre) g (e x) env' js ∧ Go (c.w fr os.length) env' (O pre) tb { D with nx := OkE (c.w fr os.length) (E (pre ++ [x])) (O (pre ++ [x])), ct := OkE (c.w fr os.length) (E (pre ++ [x])) (O (pre ++ [x])), bk := u D })
    (hd : Go c (E xs) (O xs) u D) : Go c env os (tSeq (tFor wi g tb) u) D := by
  subst hn
  refine gs_for (fun i => E (xs.take i)) (fun i => O (xs.take i)) hw (fun c' hc => by simpa using h0 c' hc) (fun i hi => hG _ (xs.drop i) (List.take_append_drop i xs).symm) (fun fr up i hi => ?_) (by simpa using hd)
  have e1 : xs = xs.take i ++ xs[i] :: xs.drop (i + 1) := by
    rw [List.getElem_cons_drop]; exact (List.take_append_drop i xs).symm
  obtain ⟨env', js, h1, h2⟩ := hs fr up (xs.take i) xs[i] (xs.drop (i + 1)) e1
  rw [hit i xs[i] (List.getElem?_eq_getElem hi)]
  refine ⟨env', js, h1, ?_⟩
  have e2 : xs.take (i + 1) = xs.take i ++ [xs[i]] := by rw [List.take_succ, List.getElem?_eq_getElem hi]; rfl
  simp only [e2]
  exact h2
/-- break: what is behind the loop -/
theorem gs_break {c' : Cn} {v : TS} (up : Up c c') (h : Go c env os u D) {D' : Ends} (hD : D'.bk = u D) : Go c' env os (tSeq tBreak v) D' := fun ad σ H ok => by
  show D'.bk σ H
  rw [hD]
  exact h ad σ H (up _ _ _ _ _ ok)
theorem gs_cont {v : TS} (h : ∀ ad σ H, Ok c ad env os σ H → D.ct σ H) : Go c env os (tSeq tCont v) D := h
/-- while -/
theorem gs_while {S : Type} {tc : TT} (E : S → Sy) (O : S → List SO) (P : S → Prop) (b : S → Bool) (μ : S → Nat) (s0 : S) (h0 : ∀ c' : Cn, c'.lo = os.length → ∀ ad σ H, Ok c' ad env os σ H → Ok c' ad (E s0) (O s0) σ H) (p0 : P s0)
    (ht : ∀ fr, Up c (c.w fr os.length) → ∀ s, P s → EvT (c.w fr os.length) (E s) (O s) tc (b s))
    (hs : ∀ fr, Up c (c.w fr os.length) → ∀ s, P s → b s = true → Go (c.w fr os.length) (E s) (O s) tb { D with nx := fun σ H => ∃ s', P s' ∧ μ s' < μ s ∧ OkE (c.w fr os.length) (E s') (O s') σ H, ct := fun σ H => ∃ s', P s' ∧ μ s' < μ s ∧ OkE (c.w fr os.length) (E s') (O s') σ H, bk := u D })
    (hd : ∀ s, P s → b s = false → Go c (E s) (O s) u D) : Go c env os (tSeq (tWhile tc tb) u) D := fun ad σ H ok => by
  have up := up_pin0 ok
  refine ⟨fun m σ H => ∃ s, P s ∧ m = μ s ∧ OkE (c.w c.fr os.length) (E s) (O s) σ H, ⟨_, s0, p0, rfl, ad, h0 _ rfl ad σ H ok.pin0⟩, ?_⟩
  rintro m σ H ⟨s, ps, rfl, ad', ok'⟩
  refine ht _ up s ps ad' σ H ok' _ fun H2 e2 => ?_
  cases hb : b s with
  | true =>
    rw [if_pos rfl]
    refine ⟨fun σ H => ∃ s', P s' ∧ μ s' < μ s ∧ OkE (c.w c.fr os.length) (E s') (O s') σ H, ?_, hs _ up s ps hb ad' σ H2 (ok'.ext e2)⟩
    rintro σ' H' ⟨s', p', hm, ok2⟩
    exact ⟨μ s', hm, s', p', rfl, ok2⟩
  | false =>
    rw [if_neg (by decide)]
    exact hd s ps hb ad' σ H2 (up _ _ _ _ _ (ok'.ext e2))
end
end DL

set_option Elab.async false
set_option linter.all false
set_option maxRecDepth 100000
set_option maxHeartbeats 2000000
/-! The data layer: comprehensions, types, a def's start. -/
namespace DL
open PySem L2
open Evl (Ex Ex.refl Ex.trans Ex.new)

/-! ### comprehensions -/
def wipeE (env : Sy) : List Nat → Sy
  | [] => env
  | v :: vs => (wipeE env vs).set v none
theorem Ok.wipe {c : Cn} {ad : Nat → Addr} {env : Sy} {os : List SO} {σ : St} {H : Hp} (ok : Ok c ad env os σ H) : ∀ vs : List Nat, Ok c ad (wipeE env vs) os (wipe σ vs) H
  | [] => ok
  | _ :: vs => (Ok.wipe ok vs).setU
section
variable {c : Cn} {env : Sy} {os : List SO} {g : TG} {tt : TT} {te : TE}
theorem ef_lc {α : Type} {wi : TI} {n : Nat} {it : Nat → SV} {G : List SO → Prop} {xs : List α} {e : α → SV} {vs : List Nat} (p : α → Bool) (f : α → PyData) (hw : EvW c env os wi n it G) (hn : n = xs.length) (hit : ∀ i x, xs[i]? = some x → it i = e x)
    (hG : ∀ o, G (os ++ [o])) (hz : xs.length ≤ 40000)
    (hs : ∀ fr lo, Up c (c.w fr lo) → ∀ acc x, x ∈ xs → ∃ env' js, (∀ j ∈ js, j ∈ vs) ∧ Tg (c.w fr lo) (wipeE env vs) (os ++ [.lst acc]) g (e x) env' js ∧ EvT (c.w fr lo) env' (os ++ [.lst acc]) tt (p x) ∧ (p x = true → EvX false (c.w fr lo) env' (os ++ [.lst acc]) te (f x))) :
    EvF c env os (tLc wi g tt te vs) (.lst (((xs.filter p).map f).map SV.i)) := fun ad σ H ok Q q => by
  subst hn
  refine hw ad σ H ok _ fun J H1 fr e1 ok1 up W D hD => ?_
  have h0 : (c.w fr os.length).H0 D = none ∨ (c.w fr os.length).M D := by
    by_cases hm : c.M D
    · exact Or.inr hm
    · refine Or.inl ?_
      show c.H0 D = none
      cases hz : c.H0 D with
      | none => rfl
      | some o => rw [ok1.ex D o hz hm] at hD; cases hD
  have ok2 := ok1.new (o := .lst []) hD (Ex.new (o := .lst []) hD) h0 ⟨[], upd_same, .nil⟩
  have ok3 := ok2.pin (v := .ref D) (s := .r os.length) ⟨congrArg V.ref adN_same.symm, by simp⟩
  have ok4 := ok3.wipe vs
  have up2 := up_pin (v := .ref D) (s := .r os.length) ok2
  generalize hlo : (os ++ [SO.lst []]).length = lo at ok4 up2
  generalize hfr : ((V.ref D, SV.r os.length) :: fr) = fr' at ok4 up2
  have upc : Up c (c.w fr' lo) := fun a b d e f z => up _ _ _ _ _ (up2 _ _ _ _ _ z)
  let acc : Nat → List SV := fun i => (((xs.take i).filter p).map f).map SV.i
  have hacc : ∀ i, (acc i).length ≤ i := fun i => by
    show ((((xs.take i).filter p).map f).map SV.i).length ≤ i
    rw [List.length_map, List.length_map]
    have h1 := List.length_filter_le p (xs.take i)
    rw [List.length_take] at h1
    omega
  refine ⟨fun i m H => m = xs.length - i ∧ i ≤ xs.length ∧ Ok (c.w fr' lo) (adN ad os.length D) (wipeE env vs) (os ++ [.lst (acc i)]) (wipe σ vs) H ∧ Ex H1 H, ⟨xs.length, by simp, Nat.zero_le _, ok4, Ex.new hD⟩, ?_⟩
  rintro i m H' ⟨rfl, hi, ok', ex1⟩
  have hget : (os ++ [SO.lst (acc i)])[os.length]? = some (.lst (acc i)) := by simp
  by_cases hlt : i < xs.length
  · have e0 : xs[i]? = some xs[i] := List.getElem?_eq_getElem hlt
    have et : xs.take (i + 1) = xs.take i ++ [xs[i]] := by rw [List.take_succ, e0]; rfl
    refine .inr ⟨W.goes i _ _ _ _ _ hlt (up2 _ _ _ _ _ ok') (hG _), fun H'' => Ok (c.w fr' lo) (adN ad os.length D) (wipeE env vs) (os ++ [.lst (acc (i + 1))]) (wipe σ vs) H'' ∧ Ex H1 H'', fun H'' p' => ⟨xs.length - (i + 1), by omega, rfl, hlt, p'.1, p'.2⟩, fun x H'' y => ?_⟩
    obtain ⟨e2, r⟩ := W.yields i _ _ _ _ _ x H'' hlt (up2 _ _ _ _ _ ok') (hG _) y
    rw [hit i xs[i] e0] at r
    have ok5 := ok'.ext e2
    obtain ⟨env', js, hjs, ht, hb, he⟩ := hs fr' lo upc (acc i) xs[i] (List.getElem_mem hlt)
    refine ht _ _ H'' x ok5 r _ fun σ2 ok6 hwp => ⟨?_, hb _ σ2 H'' ok6 _ fun H3 e3 => ?_⟩
    · rw [hwp vs hjs]
      have idem : ∀ (us : List Nat) (τ : St), (∀ j ∈ us, τ[j]? = some none ∨ τ[j]? = none) → wipe τ us = τ := by
        intro us
        induction us with
        | nil => intro τ _; rfl
        | cons u us ih =>
          intro τ h
          show (wipe τ us).set u none = τ
          rw [ih τ fun j hj => h j (List.mem_cons_of_mem _ hj)]
          rcases h u (List.mem_cons_self ..) with z | z
          · obtain ⟨h1, h2⟩ := List.getElem?_eq_some_iff.mp z
            exact List.ext_getElem? fun k => by
              by_cases q : u = k
              · subst q; rw [List.getElem?_set_self h1, z]
              · rw [List.getElem?_set_ne q]
          · exact List.set_eq_of_length_le (List.getElem?_eq_none_iff.mp z)
      refine idem vs _ fun j hj => ?_
      cases hx : (wipe σ vs)[j]? with
      | none => exact Or.inr rfl
      | some o =>
        cases o with
        | none => exact Or.inl rfl
        | some v => exact absurd hj (wipe_some hx).2
    · cases hp : p xs[i] with
      | false =>
        rw [if_neg (by decide)]
        have ea : acc (i + 1) = acc i := by
          show (((xs.take (i + 1)).filter p).map f).map SV.i = _
          rw [et, List.filter_append, List.filter_cons, if_neg (by rw [hp]; decide), List.filter_nil, List.append_nil]
        rw [ea]
        exact ⟨ok5.ext e3, (ex1.trans e2).trans e3⟩
      | true =>
        rw [if_pos rfl]
        refine he hp _ σ2 H3 (ok6.ext e3) _ fun y H4 e4 ry => ?_
        have ok7 := (ok5.ext e3).ext e4
        obtain ⟨_, ws, hws, pws⟩ := ok7.obj os.length _ hget rfl
        rw [adN_same] at hws
        have ea : acc (i + 1) = acc i ++ [SV.i (f xs[i])] := by
          show (((xs.take (i + 1)).filter p).map f).map SV.i = _
          rw [et, List.filter_append, List.filter_cons, if_pos hp, List.filter_nil, List.map_append, List.map_append]
          rfl
        refine ⟨ws, hws, ?_, ?_⟩
        · rw [Paired.length pws]
          exact Nat.lt_of_le_of_lt (hacc i) (Nat.lt_of_lt_of_le (show i < 40000 by omega) (by decide))
        · have hN : Nof (c.w fr' lo) (adN ad os.length D) (os ++ [SO.lst (acc i)]) D := Or.inr ⟨os.length, ⟨_, hget, rfl⟩, adN_same.symm⟩
          rw [Nw_false] at ry
          have m := ok7.mut (o' := .lst (acc (i + 1))) (u' := .lst (ws ++ [y])) hget rfl rfl (by
            rw [adN_same]
            refine ⟨_, upd_same, ?_⟩
            rw [ea]
            exact paired_snoc (Paired.imp pws fun _ _ z => z.mut hws rfl hN) (show Dn _ _ _ _ _ from Dn.mut hws rfl hN ry))
          rw [adN_same] at m
          have es : (os ++ [SO.lst (acc i)]).set os.length (SO.lst (acc (i + 1))) = os ++ [SO.lst (acc (i + 1))] := by
            rw [List.set_append_right _ _ (Nat.le_refl _), Nat.sub_self]
            rfl
          rw [es] at m
          refine ⟨m, fun a o h => ?_⟩
          rw [upd_ne (ne_of_none h hD)]
          exact ((ex1.trans e2).trans e3).trans e4 a o h
  · have q : i = xs.length := by omega
    subst q
    have ea : acc xs.length = ((xs.filter p).map f).map SV.i := by
      show (((xs.take xs.length).filter p).map f).map SV.i = _
      rw [List.take_length]
    refine .inl ⟨W.stops _ _ _ _ _ (up2 _ _ _ _ _ ok') (hG _), ?_⟩
    obtain ⟨_, ws, hws, pws⟩ := ok'.obj os.length _ hget rfl
    rw [adN_same] at hws
    refine q D H' (e1.free hD) (e1.trans ex1) ⟨ws, hws, ?_⟩
    have hget2 := hget
    rw [ea] at pws hget2
    refine dn_paired ((paired_dn pws).sub fun a z => ?_)
    rcases z with z | z
    · rcases z with z | ⟨k, ⟨o, h1, h2⟩, z⟩
      · exact Or.inl z
      · have hk : k < os.length := (List.getElem?_eq_some_iff.mp h1).1
        exact Or.inr ⟨k, ⟨o, by rw [List.getElem?_append_left hk]; exact h1, h2⟩, by rw [adN_ne (by omega)]; exact z⟩
    · exact Or.inr ⟨os.length, ⟨_, hget2, rfl⟩, by rw [adN_same]; exact z⟩
end

/-! ### types -/
def tyN : PyData → String
  | .none => "NoneType"
  | .bool _ => "bool"
  | .int _ => "int"
  | .str _ => "str"
  | .list _ => "list"
  | .tuple _ => "tuple"
  | .dict _ => "dict"
theorem tyx_of {K : PySem.W.Frag} {N : Addr → Prop} {H : Hp} {v : V} {d : PyData} (h : Dn K N H v d) : TyX K H v (.type (tyN d)) := by
  cases h with
  | non => exact .base .non
  | bl b => exact .base (.bl b)
  | int i => exact .base (.int i)
  | str x => exact .base (.str x)
  | lst r n a =>
    rcases r with r | ⟨o, r⟩
    · exact .base (.lst r)
    · exact .base (.frz r)
  | lstK r a =>
    obtain ⟨o, its, n, h1, h2, _⟩ := r
    exact .kList h1 h2
  | tup r a =>
    rcases r with (r | ⟨o, r⟩) | ⟨o, its, n, h1, h2, _⟩
    · exact .base (.tup r)
    · exact .fTuple r
    · exact .kTuple h1 h2
  | dkk r n a =>
    rcases r with r | ⟨o, r⟩
    · exact .base (.dK r)
    · exact .fDict r
  | dkt r n a => exact .base (.dT r)
theorem kit_int_int : kitB "int" "int" = some true := by decide +kernel
theorem kit_int_bool : kitB "int" "bool" = some false := by decide +kernel
theorem kit_int_str : kitB "int" "str" = some false := by decide +kernel
theorem kit_int_tuple : kitB "int" "tuple" = some false := by decide +kernel
theorem kit_int_list : kitB "int" "list" = some false := by decide +kernel
theorem kit_int_dict : kitB "int" "dict" = some false := by decide +kernel
theorem kit_bool_int : kitB "bool" "int" = some true := by decide +kernel
theorem kit_bool_bool : kitB "bool" "bool" = some true := by decide +kernel
theorem kit_bool_str : kitB "bool" "str" = some false := by decide +kernel
theorem kit_bool_tuple : kitB "bool" "tuple" = some false := by decide +kernel
theorem kit_bool_list : kitB "bool" "list" = some false := by decide +kernel
theorem kit_bool_dict : kitB "bool" "dict" = some false := by decide +kernel
theorem kit_str_int : kitB "str" "int" = some false := by decide +kernel
theorem kit_str_bool : kitB "str" "bool" = some false := by decide +kernel
theorem kit_str_str : kitB "str" "str" = some true := by decide +kernel
theorem kit_str_tuple : kitB "str" "tuple" = some false := by decide +kernel
theorem kit_str_list : kitB "str" "list" = some false := by decide +kernel
theorem kit_str_dict : kitB "str" "dict" = some false := by decide +kernel
theorem kit_tuple_int : kitB "tuple" "int" = some false := by decide +kernel
theorem kit_tuple_bool : kitB "tuple" "bool" = some false := by decide +kernel
theorem kit_tuple_str : kitB "tuple" "str" = some false := by decide +kernel
theorem kit_tuple_tuple : kitB "tuple" "tuple" = some true := by decide +kernel
theorem kit_tuple_list : kitB "tuple" "list" = some false := by decide +kernel
theorem kit_tuple_dict : kitB "tuple" "dict" = some false := by decide +kernel
theorem kit_list_int : kitB "list" "int" = some false := by decide +kernel
theorem kit_list_bool : kitB "list" "bool" = some false := by decide +kernel
theorem kit_list_str : kitB "list" "str" = some false := by decide +kernel
theorem kit_list_tuple : kitB "list" "tuple" = some false := by decide +kernel
theorem kit_list_list : kitB "list" "list" = some true := by decide +kernel
theorem kit_list_dict : kitB "list" "dict" = some false := by decide +kernel
theorem kit_NoneType_int : kitB "NoneType" "int" = some false := by decide +kernel
theorem kit_NoneType_bool : kitB "NoneType" "bool" = some false := by decide +kernel
theorem kit_NoneType_str : kitB "NoneType" "str" = some false := by decide +kernel
theorem kit_NoneType_tuple : kitB "NoneType" "tuple" = some false := by decide +kernel
theorem kit_NoneType_list : kitB "NoneType" "list" = some false := by decide +kernel
theorem kit_NoneType_dict : kitB "NoneType" "dict" = some false := by decide +kernel
theorem kit_dict_int : kitB "dict" "int" = some false := by decide +kernel
theorem kit_dict_bool : kitB "dict" "bool" = some false := by decide +kernel
theorem kit_dict_str : kitB "dict" "str" = some false := by decide +kernel
theorem kit_dict_tuple : kitB "dict" "tuple" = some false := by decide +kernel
theorem kit_dict_list : kitB "dict" "list" = some false := by decide +kernel
theorem kit_dict_dict : kitB "dict" "dict" = some true := by decide +kernel
section
variable {w : Bool} {c : Cn} {env : Sy} {os : List SO} {te tl : TE} {d : PyData}
theorem ex_isi {T : String} {b : Bool} (h : EvX true c env os te d) (hb : kitB (tyN d) T = some b) : EvX w c env os (tCB (rIsi c.K) (tCons te (tCons (tC (.ty T)) tNil))) (.bool b) := fun ad σ H ok Q q =>
  h ad σ H ok _ fun v H2 e r => ⟨v, .ty T, .type (tyN d), .type T, b, rfl, .ty T, tyx_of r, kit_ty hb, q _ H2 e (.bl b)⟩
def maxL : List Int → Int
  | [] => 0
  | x :: xs => xs.foldl max x
def minL : List Int → Int
  | [] => 0
  | x :: xs => xs.foldl min x
theorem foldl_max : ∀ (xs : List Int) (a : Int), a ≤ xs.foldl max a ∧ (∀ y ∈ xs, y ≤ xs.foldl max a) ∧ (xs.foldl max a = a ∨ xs.foldl max a ∈ xs)
  | [], a => ⟨Int.le_refl _, (fun _ h => absurd h (List.not_mem_nil)), Or.inl rfl⟩
  | x :: xs, a => by
    obtain ⟨h1, h2, h3⟩ := foldl_max xs (max a x)
    refine ⟨by simp only [List.foldl_cons]; omega, fun y hy => ?_, ?_⟩
    · simp only [List.foldl_cons]
      rcases List.mem_cons.mp hy with z | z
      · subst z; omega
      · exact h2 y z
    · simp only [List.foldl_cons]
      rcases h3 with z | z
      · rw [z]
        by_cases hx : a ≤ x
        · exact Or.inr (by rw [show max a x = x by omega]; exact List.mem_cons_self ..)
        · exact Or.inl (by omega)
      · exact Or.inr (List.mem_cons_of_mem _ z)
theorem foldl_min : ∀ (xs : List Int) (a : Int), xs.foldl min a ≤ a ∧ (∀ y ∈ xs, xs.foldl min a ≤ y) ∧ (xs.foldl min a = a ∨ xs.foldl min a ∈ xs)
  | [], a => ⟨Int.le_refl _, (fun _ h => absurd h (List.not_mem_nil)), Or.inl rfl⟩
  | x :: xs, a => by
    obtain ⟨h1, h2, h3⟩ := foldl_min xs (min a x)
    refine ⟨by simp only [List.foldl_cons]; omega, fun y hy => ?_, ?_⟩
    · simp only [List.foldl_cons]
      rcases List.mem_cons.mp hy with z | z
      · subst z; omega
      · exact h2 y z
    · simp only [List.foldl_cons]
      rcases h3 with z | z
      · rw [z]
        by_cases hx : x ≤ a
        · exact Or.inr (by rw [show min a x = x by omega]; exact List.mem_cons_self ..)
        · exact Or.inl (by omega)
      · exact Or.inr (List.mem_cons_of_mem _ z)
theorem maxL_spec : ∀ {xs : List Int}, xs ≠ [] → maxL xs ∈ xs ∧ ∀ y ∈ xs, y ≤ maxL xs
  | [], h => absurd rfl h
  | x :: xs, _ => by
    obtain ⟨h1, h2, h3⟩ := foldl_max xs x
    refine ⟨?_, fun y hy => ?_⟩
    · show xs.foldl max x ∈ _
      rcases h3 with z | z
      · rw [z]; exact List.mem_cons_self ..
      · exact List.mem_cons_of_mem _ z
    · rcases List.mem_cons.mp hy with z | z
      · subst z; exact h1
      · exact h2 y z
theorem minL_spec : ∀ {xs : List Int}, xs ≠ [] → minL xs ∈ xs ∧ ∀ y ∈ xs, minL xs ≤ y
  | [], h => absurd rfl h
  | x :: xs, _ => by
    obtain ⟨h1, h2, h3⟩ := foldl_min xs x
    refine ⟨?_, fun y hy => ?_⟩
    · show xs.foldl min x ∈ _
      rcases h3 with z | z
      · rw [z]; exact List.mem_cons_self ..
      · exact List.mem_cons_of_mem _ z
    · rcases List.mem_cons.mp hy with z | z
      · subst z; exact h1
      · exact h2 y z
theorem ints_of {K : PySem.W.Frag} {N : Addr → Prop} {ad : Nat → Addr} {n : Nat} {H : Hp} : ∀ {vs : List V} {ns : List Int}, Paired (SvOk K N ad n H) vs ((ns.map PyData.int).map SV.i) → vs = ns.map V.int
  | _, [], h => by cases h; rfl
  | _, x :: ns, h => by
    cases h with
    | cons a b => rw [ints_of b, dn_int (show Dn _ _ _ _ _ from a)]; rfl
theorem ex_maxL {ns : List Int} (h : EvI c env os tl ((ns.map PyData.int).map SV.i)) (hn : ns ≠ []) : EvX w c env os (tCB (rMax c.K) (tCons tl tNil)) (.int (maxL ns)) := fun ad σ H ok Q q =>
  h ad σ H ok _ fun p vs H2 e s r => by
    rw [ints_of r] at s
    refine ⟨p, ns, rfl, s, List.length_pos_iff.mpr hn, fun m hm hu => ?_⟩
    obtain ⟨h1, h2⟩ := maxL_spec hn
    have : m = maxL ns := Int.le_antisymm (h2 m hm) (hu _ h1)
    rw [this]
    exact q _ H2 e (.int _)
theorem ex_minL {ns : List Int} (h : EvI c env os tl ((ns.map PyData.int).map SV.i)) (hn : ns ≠ []) : EvX w c env os (tCB (rMin c.K) (tCons tl tNil)) (.int (minL ns)) := fun ad σ H ok Q q =>
  h ad σ H ok _ fun p vs H2 e s r => by
    rw [ints_of r] at s
    refine ⟨p, ns, rfl, s, List.length_pos_iff.mpr hn, fun m hm hu => ?_⟩
    obtain ⟨h1, h2⟩ := minL_spec hn
    have : m = minL ns := Int.le_antisymm (hu _ h1) (h2 m hm)
    rw [this]
    exact q _ H2 e (.int _)
theorem ex_sum {ns : List Int} (h : EvI c env os tl ((ns.map PyData.int).map SV.i)) : EvX w c env os (tCB (rSum c.K) (tCons tl tNil)) (.int ns.sum) := fun ad σ H ok Q q =>
  h ad σ H ok _ fun p vs H2 e s r => by
    rw [ints_of r] at s
    exact ⟨p, ns, rfl, s, q _ H2 e (.int _)⟩
theorem bls_of {K : PySem.W.Frag} {N : Addr → Prop} {ad : Nat → Addr} {n : Nat} {H : Hp} : ∀ {vs : List V} {ns : List Bool}, Paired (SvOk K N ad n H) vs ((ns.map PyData.bool).map SV.i) → vs = ns.map V.bl
  | _, [], h => by cases h; rfl
  | _, x :: ns, h => by
    cases h with
    | cons a b => rw [bls_of b, dn_bool (show Dn _ _ _ _ _ from a)]; rfl
theorem ex_any {ns : List Bool} (h : EvI c env os tl ((ns.map PyData.bool).map SV.i)) : EvX w c env os (tCB (rAny c.K) (tCons tl tNil)) (.bool (ns.any id)) := fun ad σ H ok Q q =>
  h ad σ H ok _ fun p vs H2 e s r => by
    rw [bls_of r] at s
    exact ⟨p, ns, rfl, s, q _ H2 e (.bl _)⟩
theorem ex_all {ns : List Bool} (h : EvI c env os tl ((ns.map PyData.bool).map SV.i)) : EvX w c env os (tCB (rAll c.K) (tCons tl tNil)) (.bool (ns.all id)) := fun ad σ H ok Q q =>
  h ad σ H ok _ fun p vs H2 e s r => by
    rw [bls_of r] at s
    exact ⟨p, ns, rfl, s, q _ H2 e (.bl _)⟩
end

/-! ### a def's start -/
theorem dnall_len {K : PySem.W.Frag} {N : Addr → Prop} {H : Hp} {vs : List V} {ds : List PyData} (h : DnAll K N H vs ds) : vs.length = ds.length := h.length
def env0 (n : Nat) (ds : List PyData) : Sy := ds.map (fun d => some (SV.i d)) ++ List.replicate (n - ds.length) none
theorem ok_start {K : PySem.W.Frag} {H : Hp} {N : Addr → Prop} {vs : List V} {ds : List PyData} {Nm : List Str} (hN : ∀ a, N a → H a ≠ none) (h : DnAll K N H vs ds) : Ok ⟨K, H, N, fun _ => False, [], 0⟩ (fun _ => 0) (env0 Nm.length ds) [] (L2.start Nm vs) H where
  len := by unfold L2.start env0; simp [h.length]
  ex := fun a o e _ => e
  n0 := hN
  val := fun i s e => by
    unfold env0 at e
    by_cases hi : i < ds.length
    · rw [List.getElem?_append_left (by simpa using hi), List.getElem?_map] at e
      cases hd : ds[i]? with
      | none => rw [hd] at e; cases e
      | some d =>
        rw [hd] at e
        cases e
        obtain ⟨v, h1, h2⟩ := h.get hd
        refine ⟨v, ?_, h2.sub fun a z => z.elim id fun ⟨k, ⟨o, y, _⟩, _⟩ => by simp at y⟩
        unfold L2.start
        rw [List.getElem?_append_left (by rw [List.length_map, h.length]; exact hi), List.getElem?_map, h1]
        rfl
    · rw [List.getElem?_append_right (by simpa using hi)] at e
      rw [List.getElem?_replicate] at e
      split at e <;> cases e
  obj := fun k o e _ => by simp at e
  inj := fun k j ⟨o, e, _⟩ => by simp at e
  nn := fun k ⟨o, e, _⟩ => by simp at e
  frm := fun p hp => by cases hp
  low := Nat.le_refl _
theorem spD_len {K : PySem.W.Frag} {R : List PyData → PyData → Prop} {n : Nat} (hR : ∀ ds d, R ds d → ds.length = n) : ∀ vs H Q E, spD K R vs H Q E → vs.length = n := fun vs H Q E ⟨N, ds, d, _, h, r, _⟩ => h.length.trans (hR ds d r)
theorem spF_len {K : PySem.W.Frag} {R : List PyData → List PyData → Prop} {n : Nat} (hR : ∀ ds d, R ds d → ds.length = n) : ∀ vs H Q E, spF K R vs H Q E → vs.length = n := fun vs H Q E ⟨N, ds, d, _, h, r, _⟩ => h.length.trans (hR ds d r)
/-- the ends of a def's body -/
abbrev De (Q : VK) : Ends := { nx := fun _ H' => Q .non H', rt := Q }
theorem run_spD {K : PySem.W.Frag} {R : List PyData → PyData → Prop} {vs : List V} {H : Hp} {Q : VK} {E : XK} {Nm : List Str} {t : TS} (h : spD K R vs H Q E)
    (g : ∀ N ds d, R ds d → Ret ⟨K, H, N, fun _ => False, [], 0⟩ d (De Q) → Go ⟨K, H, N, fun _ => False, [], 0⟩ (env0 Nm.length ds) [] t (De Q)) : t (De Q) (L2.start Nm vs) H := by
  obtain ⟨N, ds, d, hN, hv, hR, hq⟩ := h
  exact g N ds d hR (fun v H2 e r => hq v H2 (fun a o z => e a o z fun y => y) r) _ _ _ (ok_start hN hv)
theorem run_spF {K : PySem.W.Frag} {R : List PyData → List PyData → Prop} {vs : List V} {H : Hp} {Q : VK} {E : XK} {Nm : List Str} {t : TS} (h : spF K R vs H Q E)
    (g : ∀ N ds rs, R ds rs → RetF ⟨K, H, N, fun _ => False, [], 0⟩ rs (De Q) → Go ⟨K, H, N, fun _ => False, [], 0⟩ (env0 Nm.length ds) [] t (De Q)) : t (De Q) (L2.start Nm vs) H := by
  obtain ⟨N, ds, d, hN, hv, hR, hq⟩ := h
  exact g N ds d hR (fun p H2 ws hp e h1 h2 => hq p H2 ws hp (fun a o z => e a o z fun y => y) h1 h2) _ _ _ (ok_start hN hv)
end DL

set_option Elab.async false
set_option linter.all false
set_option maxRecDepth 100000
set_option maxHeartbeats 2000000
/-! The data layer: a def that is called, the law's end. -/
namespace DL
open PySem PySem.Spec PyProof.Rows L2

/-- the module's name x stands for a def that keeps the promise sp -/
def Cal (P : Program) (w : World) (K : PySem.W.Frag) (mg : Str → Option Value) (base : Heap) (k : Nat) (x : Str) (ps : List Str) (sp : Sp) : Prop :=
  ∃ f fd, FnOk P w K mg base CX0 k f fd ps sp ∧ Binds K fd ps [] ∧ mg x = some (.ref f) ∧ PySem.W.keepIn K (.ref f) = true
theorem pe_cal {X : Cx} {k j : Nat} {ps : List Str} {sp : Sp} {x : Str} {p pos : Pos} {e : Expr} {es : List Expr} {t : TA} (h : Cal X.prog X.w X.K X.mg X.base k x ps sp) (hr : Room j X.A) (hj : k ≤ j) (hg : Gl X x) (hx : Passes CX0 X E0) (ha : PA X (e :: es) t)
    (hdb : (x == ("__debug__" : Str)) = false := by decide) (he : starEach (e :: es) X.env = (false, eval e X.env) :: starEach es X.env := by rfl) (hpl : (backTo pos (starEach es X.env)).any (·.1) = false := by rfl) :
    PE X (.Call (.Name x p) (e :: es) [] pos) (tCall sp [] E0 t) := by
  obtain ⟨f, fd, G, b, g, kp⟩ := h
  exact pe_call G (hr.mono hj) hg g kp b .nil hx ha hdb he hpl
section
variable {P : Program} {w : World} {K : PySem.W.Frag} {mg : Str → Option Value} {base : Heap}
abbrev FnP (K : PySem.W.Frag) (x : Str) (st : Stmt) (f : Addr) (fd : FuncData) : Prop := FunD K x x (defArgs st) (defBody st) (defScope st) [] [] f fd
theorem cal_mk {x : Str} {st : Stmt} {f : Addr} {fd : FuncData} {N ps : List Str} {k : Nat} {sp : Sp} (F : FnP K x st f fd) (S : FnScope N ps (defScope st)) (g : mg x = some (.ref f)) (len : ∀ vs H Q E, sp vs H Q E → vs.length = ps.length)
    (hb : ∀ (kV doc pm : Value) (an : Option Addr) (cdv ct : Value) (us : List Value), us.length = ps.length → bindArgs (PySem.W.fnOf x x (defArgs st) (defBody st) (defScope st) .none kV doc pm an cdv ct) ⟨us, []⟩ = pure (ps.zip us))
    (hbody : ∀ (cdv : Value) (A : Around) (outer : List Env) (s : Shared) (H : Hp) (vs : List V) (Q : VK) (E : XK), Room k (A.deeper (envOfC x (defScope st) s.heap.objs.size f cdv)) → sp vs H Q E →
      ∃ t, PSs (cxOf CX0 P w K mg base N x (defScope st) f cdv A outer s H E).nox (defBody st) t ∧ t (De Q) (L2.start N vs) H) : Cal P w K mg base (k + 1) x ps sp :=
  ⟨f, fd, F.ok S len fun cdv A outer s H vs Q E hr h => let ⟨t, a, b⟩ := hbody cdv A outer s H vs Q E hr h; ⟨t, a.nox, b⟩, F.bindsN hb, g, F.kp⟩
end
/-- the script's promise -/
def RLaw : List PyData → PyData → Prop := fun ds d => ∃ ns : List Int, ns.length ≤ 63 ∧ ds = [.list (ns.map PyData.int)] ∧ d = .bool true
theorem RLaw_len : ∀ ds d, RLaw ds d → ds.length = 1 := fun ds d ⟨ns, _, e, _⟩ => by rw [e]; rfl
theorem ints_dn {K : PySem.W.Frag} {N : Addr → Prop} {H : Hp} : ∀ ns : List Int, DnAll K N H (ns.map V.int) (ns.map PyData.int)
  | [] => .nil
  | n :: ns => .cons (.int n) (ints_dn ns)
theorem law_sp {K : PySem.W.Frag} {H : Hp} {a : Addr} {ns : List Int} (hl : ns.length ≤ 63) (h : SqL K H a (ns.map V.int)) : spD K RLaw [.ref a] H (fun v _ => v = .bl true) fun _ _ _ => False := by
  refine ⟨fun _ => False, [.list (ns.map PyData.int)], .bool true, fun _ z => z.elim, .cons ?_ .nil, ⟨ns, hl, rfl, rfl⟩, fun v H' _ r => dn_bool r⟩
  rcases h with h | h
  · exact .lst h id (ints_dn ns)
  · exact .lstK h (ints_dn ns)
abbrev dD (x : Str) (s : Stmt) : He.DefD := ⟨(x, none), x, x, defArgs s, defBody s, defScope s, [], []⟩
theorem fnok_mk {P : Program} {w : World} {K : PySem.W.Frag} {mg : Str → Option Value} {base : Heap} {x : Str} {st : Stmt} {f : Addr} {fd : FuncData} {N ps : List Str} {k : Nat} {sp : Sp} (F : FnP K x st f fd) (S : FnScope N ps (defScope st)) (len : ∀ vs H Q E, sp vs H Q E → vs.length = ps.length)
    (hbody : ∀ (cdv : Value) (A : Around) (outer : List Env) (s : Shared) (H : Hp) (vs : List V) (Q : VK) (E : XK), Room k (A.deeper (envOfC x (defScope st) s.heap.objs.size f cdv)) → sp vs H Q E →
      ∃ t, PSs (cxOf CX0 P w K mg base N x (defScope st) f cdv A outer s H E).nox (defBody st) t ∧ t (De Q) (L2.start N vs) H) : FnOk P w K mg base CX0 (k + 1) f fd ps sp :=
  F.ok S len fun cdv A outer s H vs Q E hr h => let ⟨t, a, b⟩ := hbody cdv A outer s H vs Q E hr h; ⟨t, a.nox, b⟩
/-- THE END: of a law whose top holds defs and constants -/
theorem walk_end {l : PySem.W.OpenLaw} {k : Nat} {q : Program} {loose : List Str} {XP : (Str → Option Value) → Heap → Prop} {d : DefRec} {fa : List He.Fa} {fn : List He.DefD} {ts : List He.Tab} {tf : List He.Defn} {ex : PySem.W.Frag → Bool} {st : Stmt}
    (hn : l.most = some 63) (hdf : d.params.defaults = []) (hr : Room k callerA) (hd : d.name = ("law" : Str))
    (hba : ∀ (kV doc pm : Value) (an : Option Addr) (cdv ct : Value) (us : List Value), us.length = 1 → bindArgs (PySem.W.fnOf "law" "law" (defArgs st) (defBody st) (defScope st) .none kV doc pm an cdv ct) ⟨us, []⟩ = pure ((["script"] : List Str).zip us))
    (F : ∀ (w : World) (mg : Str → Option Value) (K : PySem.W.Frag) (h : Heap), K.In h → h.Ns mainGlobals mg → He.SaysX fa fn ts tf ex w h K → mg "law" = some (.ref (He.ga K "law")) ∧ ∃ fd, FnP K "law" st (He.ga K "law") fd ∧
      ∀ base : Heap, K.In base → base.Ns mainGlobals mg → FnOk l.prog w K mg base CX0 k (He.ga K "law") fd ["script"] (spD K RLaw)) :
    PySem.W.WalkO q loose XP (He.hookX 4 fa fn ts tf ex).says l.row.toRowW d [] (fun f vs => PySem.call f vs) := by
  refine L2.walk_ofE (k := k) (x := "script") (CX := CX0) hn (by decide) hdf hr ?_ (fun _ _ _ _ z => z)
  intro w mg fa' h Y G hmg
  obtain ⟨K, KX, c⟩ := Y
  rw [hd] at hmg
  obtain ⟨h0, fd, h1, h2⟩ := F w mg K h KX G c
  rw [h0] at hmg
  cases hmg
  exact ⟨K, fd, spD K RLaw, KX, fun s u => FunD.bindsA (ps := ["script"]) h1 hba s [u] rfl, fun H a ns hl _ hS => law_sp hl hS, h2⟩

/-! ### tables -/
theorem getD_map_int (ns : List Int) (j : Nat) (h : j < ns.length) : ((ns.map PyData.int).map SV.i)[j]? = some (.i (.int (ns.getD j 0))) := by
  rw [List.getElem?_map, List.getElem?_map, List.getD_eq_getElem?_getD, List.getElem?_eq_getElem h]
  rfl
theorem ex_tab {w : Bool} {c : Cn} {env : Sy} {os : List SO} {ta tb : TE} {ns : List Int} {i : Int} (h : EvI c env os ta ((ns.map PyData.int).map SV.i)) (hi : EvX true c env os tb (.int i)) (h0 : 0 ≤ i) (h1 : i < (ns.length : Int)) :
    EvX w c env os (tOp (rIxL c.K) ta tb) (.int (ns.getD i.toNat 0)) := by
  refine ex_ixL h hi ?_
  have e : i = ((i.toNat : Nat) : Int) := by omega
  rw [e]
  exact atI_nat (by rw [Int.toNat_natCast]; exact getD_map_int ns _ (by omega))
theorem itD_map {α : Type} {f : α → PyData} {xs : List α} (i : Nat) (x : α) (h : xs[i]? = some x) : itD (xs.map f) i = .i (f x) := itD_at (by rw [List.getElem?_map, h]; rfl)
/-- a for over a list of data -/
theorem gs_forD {α : Type} {c : Cn} {env : Sy} {os : List SO} {g : TG} {tb u : TS} {D : Ends} {tl : TE} {xs : List α} {f : α → PyData} (E : List α → Sy) (O : List α → List SO) (h : EvX false c env os tl (.list (xs.map f)))
    (h0 : ∀ c' : Cn, c'.lo = os.length → ∀ ad σ H, Ok c' ad env os σ H → Ok c' ad (E []) (O []) σ H)
    (hs : ∀ fr, Up c (c.w fr os.length) → ∀ pre x post, xs = pre ++ x :: post → ∃ env' js, Tg (c.w fr os.length) (E pre) (O pre) g (.i (f x)) env' js ∧ Go (c.w fr os.length) env' (O pre) tb { D with nx := OkE (c.w fr os.length) (E (pre ++ [x])) (O (pre ++ [x])), ct := OkE (c.w fr os.length) (E (pre ++ [x])) (O (pre ++ [x])), bk := u D })
    (hd : Go c (E xs) (O xs) u D) : Go c env os (tSeq (tFor (iList c.K tl) g tb) u) D :=
  gs_forL (e := fun x => .i (f x)) E O (ew_list h) (by simp) itD_map h0 (fun _ _ _ => True.intro) hs hd
/-- .. over a tuple -/
theorem gs_forTu {α : Type} {c : Cn} {env : Sy} {os : List SO} {g : TG} {tb u : TS} {D : Ends} {tl : TE} {xs : List α} {f : α → PyData} (E : List α → Sy) (O : List α → List SO) (h : EvX false c env os tl (.tuple (xs.map f)))
    (h0 : ∀ c' : Cn, c'.lo = os.length → ∀ ad σ H, Ok c' ad env os σ H → Ok c' ad (E []) (O []) σ H)
    (hs : ∀ fr, Up c (c.w fr os.length) → ∀ pre x post, xs = pre ++ x :: post → ∃ env' js, Tg (c.w fr os.length) (E pre) (O pre) g (.i (f x)) env' js ∧ Go (c.w fr os.length) env' (O pre) tb { D with nx := OkE (c.w fr os.length) (E (pre ++ [x])) (O (pre ++ [x])), ct := OkE (c.w fr os.length) (E (pre ++ [x])) (O (pre ++ [x])), bk := u D })
    (hd : Go c (E xs) (O xs) u D) : Go c env os (tSeq (tFor (iTup c.K tl) g tb) u) D :=
  gs_forL (e := fun x => .i (f x)) E O (ew_tup h) (by simp) itD_map h0 (fun _ _ _ => True.intro) hs hd
/-- a join behind an if -/
theorem gs_ifJ {c : Cn} {env : Sy} {os : List SO} {tt : TT} {t v u : TS} {D : Ends} {b : Bool} (env' : Sy) (os' : List SO) (h : EvT c env os tt b) (k : Go c env' os' u D) (h1 : b = true → Go c env' os' u D → Go c env os t { D with nx := u D }) (h2 : b = false → Go c env' os' u D → Go c env os v { D with nx := u D }) : Go c env os (tSeq (tIfS tt t v) u) D :=
  gs_if h (fun e => h1 e k) fun e => h2 e k
theorem EvF.is {c : Cn} {env : Sy} {os : List SO} {te : TE} {o o' : SO} (h : EvF c env os te o) (e : o = o') : EvF c env os te o' := e ▸ h
/-! ### equal data -/
theorem eqv_T4 (a b c d e f g h : Int) : PyData.eqv (.tuple [.int a, .int b, .int c, .int d]) (.tuple [.int e, .int f, .int g, .int h]) = decide (a = e ∧ b = f ∧ c = g ∧ d = h) := by
  simp [PyData.eqv, PyData.eqvAll, Bool.beq_eq_decide_eq, Bool.decide_and]
theorem eqv_self_T4 (a b c d : Int) : PyData.eqv (.tuple [.int a, .int b, .int c, .int d]) (.tuple [.int a, .int b, .int c, .int d]) = true := by
  rw [eqv_T4]; simp
theorem shaped_T4 (x y w h : Int) : SeqAt.shaped (.tuple [.int x, .int y, .int w, .int h]) = true := by rfl
end DL

set_option Elab.async false
set_option linter.all false
set_option maxRecDepth 100000
set_option maxHeartbeats 2000000
/-! The data layer: lists of rectangles and the like. -/
namespace DL
open PySem PySem.Spec PyProof.Rows L2
open Evl (Ex Ex.refl Ex.trans Ex.new)

/-! ### shapes of data -/
theorem canAll : ∀ {ds : List PyData}, (∀ d ∈ ds, d.canLay0 = true) → PyData.canLayAll0 ds = true
  | [], _ => rfl
  | d :: ds, h => by
    show (d.canLay0 && PyData.canLayAll0 ds) = true
    rw [h d (List.mem_cons_self ..), canAll fun e he => h e (List.mem_cons_of_mem _ he)]
    rfl
theorem depAll {n : Nat} : ∀ {ds : List PyData}, (∀ d ∈ ds, d.depth ≤ n) → PyData.depthAll ds ≤ n
  | [], _ => Nat.zero_le _
  | d :: ds, h => by
    show max d.depth (PyData.depthAll ds) ≤ n
    exact Nat.max_le.mpr ⟨h d (List.mem_cons_self ..), depAll fun e he => h e (List.mem_cons_of_mem _ he)⟩
theorem shaped_list {ds : List PyData} (h : ∀ d ∈ ds, d.canLay0 = true ∧ d.depth ≤ 63) : SeqAt.shaped (.list ds) = true := by
  unfold SeqAt.shaped
  have h1 : (PyData.list ds).canLay0 = true := canAll fun d hd => (h d hd).1
  have h2 : (PyData.list ds).depth ≤ 64 := by
    show PyData.depthAll ds + 1 ≤ 64
    have := depAll (n := 63) fun d hd => (h d hd).2
    omega
  rw [h1, decide_eq_true h2]
  rfl
theorem eqv_self {d : PyData} (h : SeqAt.shaped d = true) : PyData.eqv d d = true := SeqAt.eqv_refl d (SeqAt.canLay_of_shaped h)

/-! ### rectangles -/
abbrev Rc := Int × Int × Int × Int
def dR (r : Rc) : PyData := .tuple [.int r.1, .int r.2.1, .int r.2.2.1, .int r.2.2.2]
abbrev dRs (rs : List Rc) : PyData := .list (rs.map dR)
theorem shaped_dRs (rs : List Rc) : SeqAt.shaped (dRs rs) = true := shaped_list fun d hd => by
  obtain ⟨r, _, rfl⟩ := List.mem_map.mp hd
  exact ⟨rfl, Nat.le_of_ble_eq_true rfl⟩
theorem noLists_dR : ∀ rs : List Rc, noLists (rs.map dR) = true
  | [] => rfl
  | r :: rs => noLists_dR rs

/-! ### slices -/
theorem cutG_from {α : Type} (xs : List α) (k : Nat) : cutG xs (some (k : Int)) none = xs.drop k := by
  unfold cutG
  rw [HT.sIx_nat, HT.sIx_none]
  by_cases h : k ≤ xs.length
  · rw [Nat.min_eq_left h]
    exact List.take_of_length_le (by rw [List.length_drop]; exact Nat.le_refl _)
  · rw [Nat.min_eq_right (by omega), Nat.sub_self, List.take_zero, List.drop_of_length_le (by omega)]
theorem cutG_to {α : Type} (xs : List α) (k : Nat) : cutG xs none (some (k : Int)) = xs.take k := by
  unfold cutG
  rw [HT.sIx_nat, HT.sIx_none, List.drop_zero, Nat.sub_zero]
  by_cases h : k ≤ xs.length
  · rw [Nat.min_eq_left h]
  · rw [Nat.min_eq_right (by omega), List.take_length, List.take_of_length_le (by omega)]

/-! ### comprehensions over lists of data -/
section
variable {c : Cn} {env : Sy} {os : List SO} {g : TG} {tt : TT} {te tl ta tb : TE} {w : Bool}
theorem ef_lcD {α : Type} {xs : List α} {e : α → PyData} {vs : List Nat} (p : α → Bool) (f : α → PyData) (h : EvX false c env os tl (.list (xs.map e))) (hz : xs.length ≤ 40000)
    (hs : ∀ fr lo, Up c (c.w fr lo) → ∀ acc x, x ∈ xs → ∃ env' js, (∀ j ∈ js, j ∈ vs) ∧ Tg (c.w fr lo) (wipeE env vs) (os ++ [.lst acc]) g (.i (e x)) env' js ∧ EvT (c.w fr lo) env' (os ++ [.lst acc]) tt (p x) ∧ (p x = true → EvX false (c.w fr lo) env' (os ++ [.lst acc]) te (f x))) :
    EvF c env os (tLc (iList c.K tl) g tt te vs) (.lst (((xs.filter p).map f).map SV.i)) :=
  ef_lc (e := fun x => .i (e x)) p f (ew_list h) (by simp) itD_map (fun _ => True.intro) hz hs
/-- over a range -/
theorem ef_lcR {ta : TA} {n : Int} {vs : List Nat} (p : Nat → Bool) (f : Nat → PyData) (h : EvA true c env os ta [.int n]) (hn : -1000000000000 ≤ n ∧ n ≤ 40000)
    (hs : ∀ fr lo, Up c (c.w fr lo) → ∀ acc (x : Nat), (x : Int) < n → ∃ env' js, (∀ j ∈ js, j ∈ vs) ∧ Tg (c.w fr lo) (wipeE env vs) (os ++ [.lst acc]) g (.i (.int (x : Int))) env' js ∧ EvT (c.w fr lo) env' (os ++ [.lst acc]) tt (p x) ∧ (p x = true → EvX false (c.w fr lo) env' (os ++ [.lst acc]) te (f x))) :
    EvF c env os (tLc (iRng1 ta) g tt te vs) (.lst ((((List.range n.toNat).filter p).map f).map SV.i)) :=
  ef_lc (e := fun (x : Nat) => .i (.int (x : Int))) p f (ew_range1 h (by omega)) (by simp) (fun i x hx => by
    obtain ⟨h1, h2⟩ := List.getElem?_eq_some_iff.mp hx
    rw [List.getElem_range] at h2
    rw [h2]) (fun _ => True.intro) (by simp; omega) fun fr lo up acc x hx => hs fr lo up acc x (by have := List.mem_range.mp hx; omega)
theorem et_yes : EvT c env os tYes true := fun ad σ H ok Q q => q H (Ex.refl H)
/-- an item of a written list of data -/
theorem ex_tabD {ds : List PyData} {i : Int} (h : EvI c env os ta (ds.map SV.i)) (hi : EvX true c env os tb (.int i)) (h0 : 0 ≤ i) (h1 : i < (ds.length : Int)) :
    EvX w c env os (tOp (rIxL c.K) ta tb) (ds.getD i.toNat .none) := by
  refine ex_ixL h hi ?_
  have e : i = ((i.toNat : Nat) : Int) := by omega
  have hj : i.toNat < ds.length := by omega
  rw [e]
  refine atI_nat ?_
  rw [Int.toNat_natCast, List.getElem?_map, List.getD_eq_getElem?_getD, List.getElem?_eq_getElem hj]
  rfl
/-- xs.insert(i, e) -/
theorem gs_ins {u : TS} {D : Ends} {k : Nat} {ss : List SV} {d : PyData} {i : Int} {r : V → List V → Hp → VK → Prop} (hr : r = fun x vs H Q => ∃ (l : Addr) (xs : List V) (i : Int) (y : V), x = .ref l ∧ vs = [.int i, y] ∧ H l = some (.lst xs) ∧ xs.length < sizeLine ∧ 0 ≤ i ∧ i < 2 ^ 63 ∧ Q .non (upd H l (.lst (xs.take i.toNat ++ [y] ++ xs.drop i.toNat))))
    (hl : EvR c env os tl k) (hk : os[k]? = some (.lst ss)) (hi : EvX true c env os ta (.int i)) (h : EvX false c env os te d) (hz : ss.length < 100000) (h0 : 0 ≤ i) (h1 : i < 2 ^ 63)
    (kk : Go c env (os.set k (.lst (ss.take i.toNat ++ [.i d] ++ ss.drop i.toNat))) u D) : Go c env os (tSeq (tDrop (tBM c.K "list" r tl (tCons ta (tCons te tNil)))) u) D := fun ad σ H ok => by
  subst hr
  refine hl.2 ad σ H ok _ fun H1 e1 => ?_
  have ok1 := ok.ext e1
  obtain ⟨_, vs, hvs, pv⟩ := ok1.obj k _ hk rfl
  refine ⟨Or.inl ⟨rfl, vs, SqL.of hvs⟩, hi ad σ H1 ok1 _ fun v2 H2 e2 r2 => h ad σ H2 (ok1.ext e2) _ fun v H3 e3 r3 => ?_⟩
  have ok3 := (ok1.ext e2).ext e3
  have e23 := e2.trans e3
  have hv3 := e23 _ _ hvs
  refine ⟨ad k, vs, i, v, rfl, by rw [dn_int r2], hv3, Nat.lt_of_lt_of_le (by rw [Paired.length pv]; exact hz) (by decide), h0, h1, ?_⟩
  rw [Nw_false] at r3
  have hN : Nof c ad os (ad k) := Or.inr ⟨k, ⟨_, hk, rfl⟩, rfl⟩
  refine kk ad σ _ (ok3.mut hk rfl rfl ⟨_, upd_same, ?_⟩)
  have app : ∀ {l1 : List V} {m1 : List SV} {l2 : List V} {m2 : List SV}, Paired (SvOk c.K (Nof c ad os) ad os.length (upd H3 (ad k) (.lst (vs.take i.toNat ++ [v] ++ vs.drop i.toNat)))) l1 m1 → Paired (SvOk c.K (Nof c ad os) ad os.length (upd H3 (ad k) (.lst (vs.take i.toNat ++ [v] ++ vs.drop i.toNat)))) l2 m2 → Paired (SvOk c.K (Nof c ad os) ad os.length (upd H3 (ad k) (.lst (vs.take i.toNat ++ [v] ++ vs.drop i.toNat)))) (l1 ++ l2) (m1 ++ m2) := by
    intro l1 m1 l2 m2 p q
    induction p with
    | nil => exact q
    | cons r t ih => exact .cons r ih
  have pv3 := Paired.imp pv fun a b z => (z.ext e23).mut hv3 rfl hN (o' := .lst (vs.take i.toNat ++ [v] ++ vs.drop i.toNat))
  exact app (app (Paired.take _ pv3) (.cons (show Dn _ _ _ _ _ from Dn.mut hv3 rfl hN r3) .nil)) (Paired.drop _ pv3)
end
end DL

set_option Elab.async false
set_option linter.all false
set_option maxRecDepth 100000
set_option maxHeartbeats 2000000
/-! The data layer: the rules that name what the module has written, told by a letter. -/
namespace DL
open PySem PySem.Spec PyProof.Rows L2
section
variable {X : Cx} {K : PySem.W.Frag} {pos : Pos}
theorem kIxL (h : X.K = K := by rfl) : IxR X (rIxL K) := by subst h; exact ix_list
theorem kIxT (h : X.K = K := by rfl) : IxR X (rIxT K) := by subst h; exact ix_tup
theorem kSlL (h : X.K = K := by rfl) : SlR X (rSlL K) := by subst h; exact sl_list
theorem kSlT (h : X.K = K := by rfl) : SlR X (rSlT K) := by subst h; exact sl_tup
def rLenK (K : PySem.W.Frag) : List V → Hp → VK → Prop := fun xs H Q => ∃ p ys, xs = [.ref p] ∧ (SqL K H p ys ∨ SqT K H p ys) ∧ Q (.int ys.length) H
theorem kLen (h : X.K = K := by rfl) : CallR X (.builtin "len") (rLenK K) := by subst h; exact call_len_seq
def rListK (K : PySem.W.Frag) : List V → Hp → VK → Prop := fun xs H Q => ∃ p ys, xs = [.ref p] ∧ (SqL K H p ys ∨ SqT K H p ys) ∧ ∀ l, H l = none → Q (.ref l) (upd H l (.lst ys))
theorem kList (h : X.K = K := by rfl) : CallR X (.type "list") (rListK K) := by subst h; exact call_list_of
theorem kSum (hc : X.calm = true) (h : X.K = K := by rfl) : CallR X (.builtin "sum") (rSum K) := by subst h; exact cr_sum hc
theorem kMax (hc : X.calm = true) (h : X.K = K := by rfl) : CallR X (.builtin "max") (rMax K) := by subst h; exact cr_max hc
theorem kMin (hc : X.calm = true) (h : X.K = K := by rfl) : CallR X (.builtin "min") (rMin K) := by subst h; exact cr_min hc
theorem kAny (hc : X.calm = true) (h : X.K = K := by rfl) : CallR X (.builtin "any") (rAny K) := by subst h; exact cr_any hc
theorem kAll (hc : X.calm = true) (h : X.K = K := by rfl) : CallR X (.builtin "all") (rAll K) := by subst h; exact cr_all hc
theorem kIsi (h : X.K = K := by rfl) : CallR X (.builtin "isinstance") (rIsi K) := by subst h; exact call_isi
theorem kEqD (hu : X.A.units + 64 < cLine) (h : X.K = K := by rfl) : OpR X (compareOp .Eq) (rEqD K) := by subst h; exact op_eqD hu
theorem kNeD (hu : X.A.units + 64 < cLine) (h : X.K = K := by rfl) : OpR X (compareOp .NotEq) (rNeD K) := by subst h; exact op_neD hu
theorem kBm {T : String} {r : V → List V → Hp → VK → Prop} {e : Expr} {to : TE} {t : TA} (h : PE X e (tBM X.K T r to t)) (hk : X.K = K := by rfl) : PE X e (tBM K T r to t) := by subst hk; exact h
theorem kTup {es : List Expr} {k : Nat} {t : TGs} {n : Nat} (hc : X.calm = true) (h : PGs X es t)
    (hn : (assignEach es X.env).length = n := by rfl) (hst : (assignEach es X.env).findIdx? (·.1) = none := by rfl) (hk : X.K = K := by rfl) : PG X (.Tuple es k pos) (gTup K n t) := by subst hk; exact pg_tup hc h hn hst
theorem kPiL {tg l : Expr} {tl : TE} (hl : PE X l tl) (hk : X.K = K := by rfl) : PI X tg l (iList K tl) := by subst hk; exact pi_list hl
theorem kPiT {tg l : Expr} {tl : TE} (hl : PE X l tl) (hk : X.K = K := by rfl) : PI X tg l (iTup K tl) := by subst hk; exact pi_tup hl
def tTruK (K : PySem.W.Frag) (ta : TE) : TT := fun σ H Q => ta σ H fun x H' => ∃ k, TruV K x H' k ∧ Q k H'
theorem kTru {a : Expr} {ta : TE} (ha : PE X a ta) (he : ∀ whole, isTrue a X.env whole = (do let v ← whole; standAt a.pos; holding [v] (truthy v))) (hk : X.K = K := by rfl) : PT X a (tTruK K ta) := by subst hk; exact pt_truth ha he
end
section
variable {w : Bool} {c : Cn} {env : Sy} {os : List SO} {te ta tb tl : TE} {d : PyData} {tt tu : TT}
theorem ex_lenK {ss : List SV} (h : EvI c env os te ss) : EvX w c env os (tCB (rLenK c.K) (tCons te tNil)) (.int (ss.length : Int)) := ex_len rfl h
theorem ex_lenTK {ds : List PyData} (h : EvX true c env os te (.tuple ds)) : EvX w c env os (tCB (rLenK c.K) (tCons te tNil)) (.int (ds.length : Int)) := ex_lenT rfl h
theorem ef_listK {ss : List SV} (h : EvI c env os te ss) : EvF c env os (tCB (rListK c.K) (tCons te tNil)) (.lst ss) := ef_list rfl h
theorem et_truK {ss : List SV} (h : EvI c env os te ss) : EvT c env os (tTruK c.K te) (!ss.isEmpty) := et_truL rfl h
end
theorem soLt_data {n : Nat} {ds : List PyData} : SoLt n (.lst (ds.map SV.i)) := fun s hs => by
  obtain ⟨d, _, rfl⟩ := List.mem_map.mp hs
  exact True.intro
theorem filt_all {α : Type} (xs : List α) : xs.filter (fun _ => true) = xs := List.filter_eq_self.mpr fun _ _ => rfl
end DL

set_option Elab.async false
set_option linter.all false
set_option maxRecDepth 100000
set_option maxHeartbeats 2000000
/-! The data layer: lists, sets and dicts of any length are sorted. -/
namespace DL
open PySem PySem.Spec PyProof.Rows L2
open Evl (Ex Ex.refl Ex.trans Ex.new)

theorem vals_each : ∀ {xs : List V} {its : List Value} {ds : List PyData}, Vals xs its → xs.length = ds.length → PySem.W.EachIs (fun v (b : V × PyData) => RelV b.1 v) its (xs.zip ds)
  | _, _, [], .nil, _ => .nil
  | _, _, [], .cons _ _, e => absurd e (by simp)
  | _, _, _ :: _, .nil, e => absurd e (by simp)
  | _, _, _ :: _, .cons r t, e => .cons r (vals_each t (by simpa using e))
theorem each_vals : ∀ {bs : List (V × PyData)} {out : List Value}, PySem.W.EachIs (fun v (b : V × PyData) => RelV b.1 v) out bs → Vals (bs.map Prod.fst) out
  | _, _, .nil => .nil
  | _, _, .cons r t => .cons r (each_vals t)
/-- sorted(xs): data of any kind that has an order -/
def rSortD (K : PySem.W.Frag) : List V → Hp → VK → Prop := fun vs H Q => ∃ (a : Addr) (xs : List V) (ds : List PyData), vs = [V.ref a] ∧ SqL K H a xs ∧ DpAll K H xs ds ∧ PySem.W.AllAlike ds ∧ PySem.W.Sortable ds ∧ (∀ d ∈ ds, d.depth ≤ 8) ∧
  ∀ p : Addr, H p = none → Q (.ref p) (upd H p (.lst (((xs.zip ds).mergeSort (PySem.W.dataLe false Prod.snd)).map Prod.fst)))
theorem dpAll_len {K : PySem.W.Frag} {H : Hp} : ∀ {xs : List V} {ds : List PyData}, DpAll K H xs ds → xs.length = ds.length
  | _, _, .nil => rfl
  | _, _, .cons _ t => congrArg (· + 1) (dpAll_len t)
theorem cr_sortD {X : Cx} (hu : X.A.units + 64 < cLine) : CallR X (.builtin "sorted") (rSortD X.K) := by
  intro pins s σ H vs us Q I r h
  obtain ⟨a, xs, ds, rfl, hs, hd, hal, hk, hdep, q⟩ := h
  obtain ⟨its, rv, hl, hz⟩ := I.list hs
  rw [Vals.ref1 r]
  have el := dpAll_len hd
  have esnd : (xs.zip ds).map Prod.snd = ds := List.map_snd_zip (by omega)
  have hlen : (xs.zip ds).length = xs.length := by rw [List.length_zip]; omega
  refine PySem.W.sorted_data (R := fun v (b : V × PyData) => RelV b.1 v) (bs := xs.zip ds) (enc := Prod.snd) hl.isList (vals_each rv el) ?_ (by rw [esnd]; exact hal) (by rw [esnd]; exact hk) (by rw [hlen]; exact hz) (fun b hb => ?_) fun out ho he => ?_
  · have key : ∀ {xs : List V} {ds : List PyData} {its : List Value}, DpAll X.K H xs ds → Vals xs its → PySem.W.EachIs (fun v (b : V × PyData) => ∃ as, Reads s.heap v b.2 as) its (xs.zip ds) := by
      intro xs
      induction xs with
      | nil => intro ds its h r; cases h; cases r; exact .nil
      | cons x xs ih =>
        intro ds its h r
        cases h with
        | cons h1 h2 =>
          cases r with
          | cons r1 r2 => exact .cons (Dp.reads I _ _ _ h1 r1) (ih h2 r2)
    exact key hd rv
  · have hm : b.2 ∈ ds := by rw [← esnd]; exact List.mem_map.mpr ⟨b, hb, rfl⟩
    have := hdep _ hm
    omega
  · obtain ⟨ep, he'⟩ := PyProof.Rows.sortedAll_at s.heap its out.toArray
    refine ⟨.ref _, upd H (s.heap.objs.size + 1) (.lst (((xs.zip ds).mergeSort (PySem.W.dataLe false Prod.snd)).map Prod.fst)), I.laid (t' := s.toks) (fun _ _ => PyProof.Rows.sortedAll_old) (Nat.le_succ _) ⟨?_, out, ep, each_vals he, he'⟩, rfl, q _ (I.hok.fresh (Nat.le_succ _))⟩
    rw [List.length_map, (List.mergeSort_perm _ _).length_eq, hlen]
    exact hz
theorem kSortD {X : Cx} {K : PySem.W.Frag} (hu : X.A.units + 64 < cLine) (h : X.K = K := by rfl) : CallR X (.builtin "sorted") (rSortD K) := by subst h; exact cr_sortD hu
section
variable {w : Bool} {c : Cn} {env : Sy} {os : List SO} {te ta tb tl : TE} {d : PyData} {tt tu : TT}
mutual
theorem plain_alike : ∀ d : PyData, PySem.W.alike d d = true → d.plain = true
  | .none, _ => rfl
  | .bool _, _ => rfl
  | .int _, _ => rfl
  | .str _, _ => rfl
  | .list xs, h => by
    show PyData.plainAll xs = true
    exact plain_alikes xs (by simpa [PySem.W.alike] using h)
  | .tuple xs, h => by
    show PyData.plainAll xs = true
    exact plain_alikes xs (by simpa [PySem.W.alike] using h)
  | .dict _, h => by simp [PySem.W.alike] at h
theorem plain_alikes : ∀ ds : List PyData, PySem.W.alikeAll ds ds = true → PyData.plainAll ds = true
  | [], _ => rfl
  | d :: ds, h => by
    rw [PySem.W.alikeAll, Bool.and_eq_true] at h
    show (d.plain && PyData.plainAll ds) = true
    rw [plain_alike d h.1, plain_alikes ds h.2]
    rfl
end
theorem plains_of {ds : List PyData} (h : PySem.W.AllAlike ds) : PyData.plainAll ds = true := by
  have all : ∀ es : List PyData, (∀ d ∈ es, d ∈ ds) → PyData.plainAll es = true := by
    intro es
    induction es with
    | nil => intro _; rfl
    | cons d es ih =>
      intro f
      show (d.plain && PyData.plainAll es) = true
      rw [plain_alike d (h d (f d (List.mem_cons_self ..)) d (f d (List.mem_cons_self ..))), ih fun x hx => f x (List.mem_cons_of_mem _ hx)]
      rfl
  exact all ds fun _ hd => hd
theorem dpAll_of {K : PySem.W.Frag} {N : Addr → Prop} {H : Hp} {xs : List V} {ds : List PyData} (hal : PySem.W.AllAlike ds) (h : DnAll K N H xs ds) : DpAll K H xs ds := DnAll.dp _ _ (plains_of hal) h
theorem dn_zip {K : PySem.W.Frag} {N : Addr → Prop} {H : Hp} : ∀ {xs : List V} {ds : List PyData}, DnAll K N H xs ds → ∀ b ∈ xs.zip ds, Dn K N H b.1 b.2
  | _, _, .nil, b, h => absurd h (by simp)
  | _, _, .cons r t, b, h => by
    rw [List.zip_cons_cons] at h
    rcases List.mem_cons.mp h with z | z
    · subst z; exact r
    · exact dn_zip t b z
theorem dn_of_pairs {K : PySem.W.Frag} {N : Addr → Prop} {H : Hp} : ∀ {bs : List (V × PyData)}, (∀ b ∈ bs, Dn K N H b.1 b.2) → DnAll K N H (bs.map Prod.fst) (bs.map Prod.snd)
  | [], _ => .nil
  | b :: bs, h => .cons (h b (List.mem_cons_self ..)) (dn_of_pairs fun x hx => h x (List.mem_cons_of_mem _ hx))
theorem ef_sortD {ds : List PyData} (h : EvI c env os te (ds.map SV.i)) (hal : PySem.W.AllAlike ds) (hk : PySem.W.Sortable ds) (hdep : ∀ d ∈ ds, d.depth ≤ 8) : EvF c env os (tCB (rSortD c.K) (tCons te tNil)) (.lst ((ds.mergeSort (PySem.W.dataLe false id)).map SV.i)) := fun ad σ H ok Q q =>
  h ad σ H ok _ fun p vs H2 e s r => by
    have hd := paired_dn r
    refine ⟨p, vs, ds, rfl, s, dpAll_of hal hd, hal, hk, hdep, fun p2 hp2 => ?_⟩
    have e2 : Ex H (upd H2 p2 (.lst (((vs.zip ds).mergeSort (PySem.W.dataLe false Prod.snd)).map Prod.fst))) := e.trans (Ex.new hp2)
    refine q p2 _ (e.free hp2) e2 ⟨_, upd_same, ?_⟩
    have esnd : (vs.zip ds).map Prod.snd = ds := List.map_snd_zip (by have := hd.length; omega)
    have em : ((vs.zip ds).mergeSort (PySem.W.dataLe false Prod.snd)).map Prod.snd = ds.mergeSort (PySem.W.dataLe false id) := by
      exact (List.map_mergeSort (r := PySem.W.dataLe false Prod.snd) (s := PySem.W.dataLe false id) (f := Prod.snd) (l := vs.zip ds) fun a _ b _ => rfl).trans (by rw [esnd])
    have hz : DnAll c.K (Nof c ad os) H2 (((vs.zip ds).mergeSort (PySem.W.dataLe false Prod.snd)).map Prod.fst) (((vs.zip ds).mergeSort (PySem.W.dataLe false Prod.snd)).map Prod.snd) :=
      dn_of_pairs fun b hb => dn_zip hd b ((List.mergeSort_perm _ _).mem_iff.mp hb)
    rw [em] at hz
    exact dn_paired ((DnAll.add hp2 hz).ext (Ex.new hp2))
end

/-! ### sets of ints, keys of dicts -/
section
variable {prog : Program} {w : World} {A : Around} {E : Value → Shared → Prop} {s : Shared}
theorem set_sort {a : Addr} {S : Int → Bool} {n : Nat} {Q : Value → Shared → Prop} (R : SetR w s.heap a S n) (hh : A.handled = none)
    (hQ : ∀ (s2 : Shared) (p : Addr) (res : List Value) (ep : Nat) (ns : List Int), (∀ b o, s.heap.get? b = some o → s2.heap.get? b = some o) → s2.gens = s.gens → s2.os = s.os → s.heap.objs.size ≤ p →
      s2.heap.get? p = some (seqObj "list" res.toArray ep) → IntsAre res ns → ns.Pairwise (· < ·) → (∀ k, k ∈ ns ↔ S k = true) → ns.length = n → Q (.ref p) s2) :
    wpAny (model prog w) A (call (.builtin "sorted") [.ref a]) Q E s := by
  have ⟨o, es, ep, t, ho, hex, hd, g, nd, hm, hb, hf, hn, hr, hl⟩ := R
  have lim : n ≤ sizeLine := by
    have h1 : es.size < scanBound := hb
    have h2 : scanBound ≤ sizeLine := by decide
    omega
  refine Calls.call_function_entry kind_sorted plain_sorted entry_sorted (args_sorted1 _) ?_
  unfold Builtin.«sorted»
  refine wpAny_bind (m := checkCount "sorted" 1 1 _) (wpAny_pure ?_)
  refine wpAny_bind (collect_set (A := A.in1) hh ⟨o, ho, hex.1, hd⟩ hf hb hr hl fun s1 vs keep sz gs oss pm => ?_)
  have len : vs.length = n := by rw [pm.length_eq, List.length_map, Array.length_toList]; exact hn
  have allI : ∀ v ∈ vs, ∃ i t, v = Value.int i t := fun v hv => by
    obtain ⟨e, he, rfl⟩ := List.mem_map.mp (pm.mem_iff.mp hv)
    obtain ⟨k, tk, h1, _⟩ := g e he
    exact ⟨k, tk, h1⟩
  have hI := SrtO.ints_iv allI
  have keyEq : ∀ e ∈ es.toList, SrtO.iv e.2 = keyOf e := fun e he => by
    obtain ⟨k, tk, h1, _⟩ := g e he
    unfold keyOf SrtO.iv
    rw [h1]
  have pk : (vs.map SrtO.iv).Perm (es.toList.map keyOf) := by
    refine (pm.map SrtO.iv).trans ?_
    rw [List.map_map]
    exact List.Perm.of_eq (List.map_congr_left fun e he => keyEq e he)
  refine wpAny_bind (wpAny_newList ?_ (by rw [len]; exact lim))
  have at0 : (s1.heap.push (seqObj "list" vs.toArray 0)).get? s1.heap.objs.size = some (seqObj "list" vs.toArray 0) := Heap.get?_push_size _ rfl
  refine wpAny_bind (wpAny_holding (wpAny_call_entry slot_list_sort ⟨_, at0, rfl⟩ entry_list_sort
    (SrtO.list_sort_ord SrtO.swo_int at0 (by rw [len]; exact lim) (fun h2 => SrtO.ints_sortable hI h2) fun res h1 h2 => ⟨_, rfl, ?_⟩) (args_list_sort _)))
  obtain ⟨k1, k2, k3⟩ := SrtO.ints_out hI h1 h2
  obtain ⟨ep2, at2⟩ := sortedHeap_at (vs := vs) (out := res.toArray) at0
  have pn := k2.trans pk
  refine wpAny_pure ⟨_, rfl, hQ _ s1.heap.objs.size res ep2 (res.map SrtO.iv) (fun b u e => ?_) gs oss sz at2 k1 (lt_of_le_nodup _ k3 (pn.nodup_iff.mpr nd)) (fun k => by rw [pn.mem_iff, ← hm k]) ?_⟩
  · have q := keep b u e
    have lt := Heap.lt_size q
    show (sortedHeap (s1.heap.push (seqObj "list" vs.toArray 0)) s1.heap.objs.size vs res.toArray).get? b = some u
    rw [sortedHeap_old (Nat.ne_of_lt lt) (by rw [size_push']; exact Nat.lt_succ_of_lt lt)]
    exact Heap.get?_push_of_some _ q
  · rw [pn.length_eq, List.length_map, Array.length_toList]; exact hn
end

section
variable {X : Cx}
/-- sorted(S), a set of ints -/
def rSortSetA (w : World) : List V → Hp → VK → Prop := fun vs H Q => ∃ (a : Addr) (S : Int → Bool) (n : Nat), vs = [V.ref a] ∧ H a = some (SetO w a S n) ∧
  ∀ (ns : List Int) (p : Addr), ns.Pairwise (· < ·) → (∀ k : Int, k ∈ ns ↔ S k = true) → ns.length = n → H p = none → Q (.ref p) (upd H p (.lst (ns.map V.int)))
theorem cr_sortSetA (hc : X.calm = true) : CallR X (.builtin "sorted") (rSortSetA X.w) := by
  intro pins s σ H vs us Q I r h
  obtain ⟨a, S, n, rfl, ha, q⟩ := h
  have R := setO_get I ha
  rw [Vals.ref1 r]
  have ⟨_, _, _, _, _, _, _, _, _, _, hb, _, hn, _, _⟩ := R
  refine set_sort R (I.ok.hd hc) fun s2 p res ep ns keep gs oss sz at2 k1 k2 k3 k4 => ?_
  have len : (ns.map V.int).length ≤ sizeLine := by
    rw [List.length_map, k4]
    exact Nat.le_trans (Nat.le_of_eq hn.symm) (Nat.le_trans (Nat.le_of_lt hb) (by decide))
  have free : H p = none := I.hok.fresh sz
  have J : Inv X pins σ (upd H p (.lst (ns.map V.int))) { s with heap := s2.heap, gens := s2.gens, drawn := s2.drawn, toks := s2.toks } :=
    I.call (ch := []) (Un.laid keep sz free) (I.hok.laid keep sz ⟨len, res, ep, vals_of_ints k1, at2⟩) (by rw [gs]; exact I.bare) (fun _ z => nomatch z)
  have same : s2 = { s with heap := s2.heap, gens := s2.gens, drawn := s2.drawn, toks := s2.toks } := by
    cases s2; cases s; cases oss; rfl
  rw [same]
  exact ⟨.ref p, _, J, rfl, q ns p k2 k3 k4 free⟩
/-- sorted(d), the keys ints -/
def rSortDKA : List V → Hp → VK → Prop := fun vs H Q => ∃ (a : Addr) (kvs : List (Key × V)) (ks : List Int), vs = [V.ref a] ∧ H a = some (.dK kvs) ∧ kvs.map (·.1) = ks.map Sum.inl ∧
  ∀ (ns : List Int) (p : Addr), ns.Perm ks → ns.Pairwise (· ≤ ·) → H p = none → Q (.ref p) (upd H p (.lst (ns.map V.int)))
theorem cr_sortDKA (hc : X.calm = true) : CallR X (.builtin "sorted") rSortDKA := by
  intro pins s σ H vs us Q I r h
  obtain ⟨a, kvs, ks, rfl, ha, hks, q⟩ := h
  rw [Vals.ref1 r]
  obtain ⟨z, lo, ws, rel, dd⟩ := dk_rd I.hok (Or.inl ha)
  obtain ⟨ep, hat⟩ := dd.dictAt
  have hkeys : ws.map (·.1) = ks.map Sum.inl := rel.keys.symm.trans hks
  have len : ws.length = ks.length := by simpa using congrArg List.length hkeys
  have lim : ws.length ≤ sizeLine := by
    have h1 := congrArg List.length rel.keys
    simp at h1
    omega
  refine Calls.call_function_entry kind_sorted plain_sorted entry_sorted (args_sorted1 _) ?_
  unfold Builtin.«sorted»
  refine wpAny_bind (m := checkCount "sorted" 1 1 _) (wpAny_pure ?_)
  refine wpAny_bind (PySem.W.kdu_collect (A := X.A.in1) (PySem.W.kdl_dict (knd := mixKind X.prog X.w) (kvs := ws) (ep := ep) lo) (I.ok.hd hc) hat lim fun h1 tk acc keep hacc => ?_)
  have lenA : acc.toList.length = ks.length := by rw [Array.length_toList, hacc.1, len]
  have isI : ∀ (j : Nat) (y : Int), ks[j]? = some y → ∃ t, acc.toList[j]? = some (Value.int y t) := fun j y ey => by
    have hj : j < acc.size := by
      have := (List.getElem?_eq_some_iff.mp ey).1
      rw [← Array.length_toList]; omega
    obtain ⟨k, x, e1, e2⟩ := hacc.2 j acc[j] (Array.getElem?_eq_getElem hj)
    have e3 : (ws.map (·.1))[j]? = some k := by rw [List.getElem?_map, e1]; rfl
    rw [hkeys, List.getElem?_map, ey] at e3
    have e4 : Sum.inl y = k := Option.some.inj e3
    subst e4
    rcases keyIs_shape (show keyIs (Sum.inl y) acc[j] = true from e2) with ⟨i, t, ek, ev⟩ | ⟨u, t, ek, ev⟩
    · cases ek
      exact ⟨t, by rw [Array.getElem?_toList, Array.getElem?_eq_getElem hj, ev]⟩
    · cases ek
  have hI : IntsAre acc.toList ks := by
    have go : ∀ (l : List Value) (m : List Int), l.length = m.length → (∀ (j : Nat) (y : Int), m[j]? = some y → ∃ t, l[j]? = some (Value.int y t)) → IntsAre l m := by
      intro l
      induction l with
      | nil => intro m e _; cases m with
        | nil => exact .nil
        | cons _ _ => simp at e
      | cons v l ih => intro m e f; cases m with
        | nil => simp at e
        | cons y m =>
          obtain ⟨t, ht⟩ := f 0 y rfl
          have ev : v = Value.int y t := by simpa using ht
          subst ev
          exact .cons y t (ih m (by simpa using e) fun j z hz => f (j + 1) z (by simpa using hz))
    exact go _ _ lenA isI
  have I1 : Inv X pins σ H { s with heap := h1, toks := tk } := I.kept keep
  have limA : acc.toList.length ≤ sizeLine := by rw [lenA, ← len]; exact lim
  refine wpAny_bind (wpAny_newList ?_ limA)
  have at0 : (h1.push (seqObj "list" acc.toList.toArray 0)).get? h1.objs.size = some (seqObj "list" acc.toList.toArray 0) := Heap.get?_push_size _ rfl
  show wpAny _ _ _ _ _ { s with heap := h1.push (seqObj "list" acc.toList.toArray 0), toks := tk }
  refine wpAny_bind (wpAny_holding (wpAny_call_entry slot_list_sort ⟨_, at0, rfl⟩ entry_list_sort
    (SrtO.list_sort_ord (s := { s with heap := h1.push (seqObj "list" acc.toList.toArray 0), toks := tk }) SrtO.swo_int at0 limA (fun h2 => SrtO.ints_sortable hI h2) fun res g1 g2 => ⟨_, rfl, ?_⟩) (args_list_sort _)))
  obtain ⟨k1, k2, k3⟩ := SrtO.ints_out hI g1 g2
  obtain ⟨ep2, at2⟩ := sortedHeap_at (vs := acc.toList) (out := res.toArray) at0
  have lenR : ((res.map SrtO.iv).map V.int).length ≤ sizeLine := by
    rw [List.length_map, k2.length_eq, ← len]
    exact lim
  refine wpAny_pure ⟨_, rfl, .ref h1.objs.size, upd H h1.objs.size (.lst ((res.map SrtO.iv).map V.int)), I1.laid (t' := tk) (fun b u e => ?_) (Nat.le_refl _)
    (show ObjOk X.prog X.w _ _ _ (.lst ((res.map SrtO.iv).map V.int)) from ⟨lenR, res, ep2, vals_of_ints k1, at2⟩), rfl, q _ _ k2 k3 (I1.hok.fresh (Nat.le_refl _))⟩
  have lt : b < h1.objs.size := Heap.lt_size e
  rw [sortedHeap_old (Nat.ne_of_lt lt) (by rw [size_push']; exact Nat.lt_succ_of_lt lt)]
  exact Heap.get?_push_of_some _ e
end
end DL

set_option Elab.async false
set_option linter.all false
set_option maxRecDepth 100000
set_option maxHeartbeats 4000000
/-! Comprehensions of two clauses into a set of ints: each clause's loop by one lemma. -/
namespace DL
open PySem PySem.Spec PyProof.Rows L2
open PpSet (eval_SetComp newSet_ok codeAny_compStart_set)

/-- one turn of a clause: what goes on behind the tests, told by what comes after it -/
def turnT (tg i : Expr) (ifs : List Expr) (env : Env) (it : Value) (bodyK : Sem Fin → Sem Fin) (nxt : Sem Fin) : Sem Fin := do
  standAt i.pos
  match ← pyNext it with
  | none => pure (.done .next)
  | some v =>
    letOwnedTupleGo tg it v
    assign tg env v
    let mut ok := true
    for c in ifs do
      if ok then ok ← isTrue c env (eval c env)
    if ok then bodyK nxt else nxt
abbrev two (elt t0 i0 t1 i1 : Expr) (f0 f1 : List Expr) (scope : Scope) (pos : Pos) : Expr := .SetComp elt [⟨t0, i0, f0, 0⟩, ⟨t1, i1, f1, 0⟩] scope pos
def nestK (e i1 : Expr) (acc : Value) (env : Env) (nxt : Sem Fin) : Sem Fin := do
  let x ← eval i1 env
  standAt i1.pos
  let x ← foldedSetIterable i1 env x
  let _ ← runOwn (.compStart e 1 (← holding [x] (pyIter x)) acc env) env
  nxt
def emitK (elt : Expr) (acc : Value) (env : Env) (nxt : Sem Fin) : Sem Fin := do
  (do let v ← eval elt env; standAt elt.pos; let _ ← call (.builtin "set.add") [acc, v])
  nxt
theorem turn_outer (elt t0 i0 t1 i1 : Expr) (f0 f1 : List Expr) (scope : Scope) (pos : Pos) (it acc : Value) (env : Env) :
    compTurn (two elt t0 i0 t1 i1 f0 f1 scope pos) 0 it acc env = turnT t0 i0 f0 env it (nestK (two elt t0 i0 t1 i1 f0 f1 scope pos) i1 acc env) (again (.compLoop (two elt t0 i0 t1 i1 f0 f1 scope pos) 0 it acc env)) := by rfl
theorem turn_inner (elt t0 i0 t1 i1 : Expr) (f0 f1 : List Expr) (scope : Scope) (pos : Pos) (it acc : Value) (env : Env) :
    compTurn (two elt t0 i0 t1 i1 f0 f1 scope pos) 1 it acc env = turnT t1 i1 f1 env it (emitK elt acc env) (again (.compLoop (two elt t0 i0 t1 i1 f0 f1 scope pos) 1 it acc env)) := by rfl

/-- σ' knows what σ knows -/
def Kn (σ σ' : L2.St) : Prop := σ.length = σ'.length ∧ ∀ (j : Nat) v, σ[j]? = some (some v) → σ'[j]? = some (some v)
section
variable {Y : Cx}
theorem clause_run {elt t0 i0 t1 i1 : Expr} {f0 f1 : List Expr} {scope : Scope} {pos : Pos} {tg i : Expr} {ifs : List Expr} {lv : Nat} {acc : Value} {bodyK : Sem Fin → Sem Fin} {J : It} {fp : List Addr} {it : Addr} {tn : Nat → Heap → Prop} {g : TG} {tt : TT} {pins : List (Addr × Obj)} {σ : L2.St} {vs : List Nat} {H : Hp} {s : Shared} {R : Result → Shared → Prop} {W : Nat → Nat → Hp → Prop} {m0 : Nat} {BK : L2.St → Hp → (Hp → Prop) → Prop}
    (hc : Y.calm = true) (hxe : Y.xe = fun _ _ => False) (hden : compTurn (two elt t0 i0 t1 i1 f0 f1 scope pos) lv (.ref it) acc Y.env = turnT tg i ifs Y.env (.ref it) bodyK (again (.compLoop (two elt t0 i0 t1 i1 f0 f1 scope pos) lv (.ref it) acc Y.env)))
    (T : Turn Y.prog Y.w Y.K tg J fp it tn) (pg : PG Y tg g) (pt : PTs Y ifs tt) (I : Inv Y pins (wipe σ vs) H s) (st : tn 0 s.heap) (f : ∀ b ∈ fp, FpOk Y pins H b) (w0 : W 0 m0 H)
    (step : ∀ k m H, W k m H → (J.stop k H ∧ ∀ s', Inv Y pins (wipe σ vs) H s' → R (.ok .next) s') ∨ (J.go k H ∧ ∃ Nx : Hp → Prop, (∀ H', Nx H' → ∃ m', m' < m ∧ W (k + 1) m' H') ∧ ∀ x H', J.yld k H x H' → g x (wipe σ vs) H' fun σ2 H2 => wipe σ2 vs = wipe σ vs ∧ tt σ2 H2 fun b H3 => if b = true then BK σ2 H3 Nx else Nx H3))
    (body : ∀ ps σ2 H3 s2 Nx, Inv Y ps σ2 H3 s2 → wipe σ2 vs = wipe σ vs → BK σ2 H3 Nx → ∀ (nxt : Sem Fin) (Q : Fin → Shared → Prop) (E : Value → Shared → Prop),
      (∀ σ9 H9 s9, Inv Y ps σ9 H9 s9 → Kn (wipe σ vs) σ9 → Nx H9 → wpAny (model Y.prog Y.w) Y.A nxt Q E s9) → wpAny (model Y.prog Y.w) Y.A (bodyK nxt) Q E s2) :
    codeAny (model Y.prog Y.w) Y.A (.compLoop (two elt t0 i0 t1 i1 f0 f1 scope pos) lv (.ref it) acc Y.env) R s := by
  have fpOk : ∀ {H' : Hp}, (∀ b ∈ fp, H' b = none) → ∀ b ∈ fp, FpOk Y pins H' b := fun hn b hb => ⟨hn b hb, (f b hb).2⟩
  refine codeAny_loop rfl (fun n s' => ∃ k H', Inv Y pins (wipe σ vs) H' s' ∧ tn k s'.heap ∧ (∀ b ∈ fp, H' b = none) ∧ W k n H') (fun n s' hI => ?_) m0 ⟨0, H, I, st, fun b hb => (f b hb).1, w0⟩
  obtain ⟨k, H', I', st', n', w'⟩ := hI
  show wpAny _ Y.A ((compTurn (two elt t0 i0 t1 i1 f0 f1 scope pos) lv (.ref it) acc Y.env).onRaise (fun x => do noteFrame x Y.env; theTreesLotGoes x)) _ _ s'
  refine wpAny_noted ?_
  rw [hden]
  unfold turnT
  refine wpAny_bind (wpAny_standAt (wpAny_bind ?_))
  rcases step k n H' w' with ⟨stop, fin⟩ | ⟨go, Nx, hNx, hs⟩
  · refine thnF (T.done Y rfl rfl rfl hc k pins s' _ H' (fun _ _ => False) I' (fpOk n') st' stop) fun r s1 ⟨hr, I1⟩ => ?_
    subst hr
    exact wpAny_pure (fin s1 I1)
  · refine thnF (T.item Y rfl rfl rfl hc k pins s' _ H' (fun _ _ => False) I' (fpOk n') st' go) fun r s1 ⟨u, hr, h1⟩ => ?_
    subst hr
    refine wpAny_bind (thnF h1 fun _ s2 ⟨x, H2, I2, r2, y2, st2, n2⟩ => ?_)
    have J2 := I2.pinned (fpOk n2) (T.obj _ _ st2)
    have a1 := pg.run _ s2 _ H2 x u _ J2 r2 (hs x H2 y2)
    rw [hxe] at a1
    refine wpAny_bind (thnF a1 fun _ s3 ⟨σ3, H3, I3, hw, q3⟩ => ?_)
    have a2 := pt.run _ s3 σ3 H3 _ I3 q3
    rw [hxe] at a2
    refine wpAny_bind (thnF a2 fun b s4 ⟨H4, I4, q4⟩ => ?_)
    have kn : Kn (wipe σ vs) σ3 := ⟨by rw [← hw, wipe_length], fun j v e => by rw [← hw] at e; exact (wipe_some e).1⟩
    have done : ∀ σ9 H9 s9, Inv Y (pins ++ pinsAt fp s2.heap) σ9 H9 s9 → Kn (wipe σ vs) σ9 → Nx H9 → ∃ m, m < n ∧ ∃ k H', Inv Y pins (wipe σ vs) H' s9 ∧ tn k s9.heap ∧ (∀ b ∈ fp, H' b = none) ∧ W k m H' := fun σ9 H9 s9 I9 k9 nx => by
      obtain ⟨m', hm, w9⟩ := hNx H9 nx
      have pin : ∀ b ∈ fp, ∀ o, s2.heap.get? b = some o → s9.heap.get? b = some o ∧ H9 b = none := fun b hb o e =>
        let z := I9.pin (b, o) (List.mem_append_right _ (List.mem_append_right _ (mem_pinsAt hb e)))
        ⟨z.1, z.2.1⟩
      refine ⟨m', hm, k + 1, H9, I9.unpinned.weak k9.1 k9.2, T.keep _ _ _ st2 fun b hb o e => (pin b hb o e).1, fun b hb => ?_, w9⟩
      obtain ⟨o, e, _⟩ := T.obj _ _ st2 b hb
      exact (pin b hb o e).2
    cases b with
    | false => exact wpAny_pure ⟨rfl, done σ3 H4 s4 I4 kn q4⟩
    | true => exact body _ σ3 H4 s4 Nx I4 hw q4 _ _ _ fun σ9 H9 s9 I9 k9 nx => wpAny_pure ⟨rfl, done σ9 H9 s9 I9 k9 nx⟩
/-- an int into the set at D -/
theorem addI_ok {pins : List (Addr × Obj)} {σ : L2.St} {H : Hp} {s : Shared} {E : Value → Shared → Prop} {D : Addr} {S : Int → Bool} {n : Nat} {y : Int} {v : Value} {Q : Value → Shared → Prop} (I : Inv Y pins σ H s) (hD : H D = some (SetO Y.w D S n)) (room : n + 1 < scanBound) (r : RelV (.int y) v)
    (h : ∀ s', Inv Y pins σ (upd H D (SetO Y.w D (fun j => S j || decide (j = y)) (if S y = true then n else n + 1))) s' → Q .none s') : wpAny (model Y.prog Y.w) Y.A (call (.builtin "set.add") [.ref D, v]) Q E s := by
  obtain ⟨tk, rfl⟩ := r
  refine setR_add (setO_get I hD) room fun h' sb new => ?_
  have he : ∃ u, h'.get? D = some u := by
    have ⟨o, _, _, _, ho, _⟩ := new
    exact ⟨o, ho⟩
  exact h _ (I.write (e := D) (t' := s.toks + 1) (by rw [hD]; trivial) (.inl rfl) (fun b u hb hu => (sb.2 b hb).trans hu) he (setO_new new))
end

/-- {elt for t0 in i0 if .. for t1 in i1 if ..}: the second clause's loop, from the first one's turn -/
def tNest (w : World) (D : Addr) (wi1 : TI) (g1 : TG) (tt1 : TT) (te : TE) (vs1 : List Nat) (σ : L2.St) (H : Hp) (Nx : Hp → Prop) : Prop := wi1 σ H fun J H4 => ∃ W : Nat → Nat → Hp → Prop, (∃ m, W 0 m H4) ∧ ∀ k m H, W k m H →
  (J.stop k H ∧ Nx H) ∨ (J.go k H ∧ ∃ Nx1 : Hp → Prop, (∀ H', Nx1 H' → ∃ m', m' < m ∧ W (k + 1) m' H') ∧ ∀ x H', J.yld k H x H' → g1 x (wipe σ vs1) H' fun σ3 H5 => wipe σ3 vs1 = wipe σ vs1 ∧ tt1 σ3 H5 fun b H6 =>
    if b = true then te σ3 H6 fun y H7 => ∃ (z : Int) (S : Int → Bool) (n : Nat), y = .int z ∧ H7 D = some (SetO w D S n) ∧ n + 1 < scanBound ∧ Nx1 (upd H7 D (SetO w D (fun j => S j || decide (j = z)) (if S z = true then n else n + 1))) else Nx1 H6)
def tSc2 (w : World) (wi : TI) (g : TG) (tt : TT) (wi1 : TI) (g1 : TG) (tt1 : TT) (te : TE) (vs vs1 : List Nat) : TE := fun σ H Q => wi σ H fun J H1 => ∀ D, H1 D = none → ∃ W : Nat → Nat → Hp → Prop, (∃ m, W 0 m (upd H1 D (SetO w D (fun _ => false) 0))) ∧ ∀ k m H, W k m H →
  (J.stop k H ∧ Q (.ref D) H) ∨ (J.go k H ∧ ∃ Nx : Hp → Prop, (∀ H', Nx H' → ∃ m', m' < m ∧ W (k + 1) m' H') ∧ ∀ x H', J.yld k H x H' → g x (wipe σ vs) H' fun σ2 H2 => wipe σ2 vs = wipe σ vs ∧ tt σ2 H2 fun b H3 =>
    if b = true then tNest w D wi1 g1 tt1 te vs1 σ2 H3 Nx else Nx H3)
/-- the start of the second clause -/
theorem start_inner {prog : Program} {w : World} {A : Around} {R : Result → Shared → Prop} {s : Shared} {elt t0 i0 t1 i1 : Expr} {f0 f1 : List Expr} {scope : Scope} {pos : Pos} {it acc : Value} {env : Env}
    (h0 : codeAny (model prog w) A (.compLoop (two elt t0 i0 t1 i1 f0 f1 scope pos) 1 it acc env) R s)
    (h : ∀ E : Value → Shared → Prop, wpAny (model prog w) A (pyIter it) (fun it2 s2 => codeAny (model prog w) A (.compLoop (two elt t0 i0 t1 i1 f0 f1 scope pos) 1 it2 acc env) R s2) E s) :
    codeAny (model prog w) A (.compStart (two elt t0 i0 t1 i1 f0 f1 scope pos) 1 it acc env) R s := by
  refine codeAny_of_tree ?_
  show wpAny _ _ ((compStart (two elt t0 i0 t1 i1 f0 f1 scope pos) 1 it acc env).onRaise (fun x => do noteFrame x env; standAt theWindowsPlace)) _ _ s
  refine wpAny_notedAt ?_
  unfold compStart
  show wpAny _ _ (ask >>= _) _ _ s
  refine wpAny_bind (wpAny_askSetting (wpAny_ite ?_))
  split
  · first
      | exact wpAny_pure ⟨rfl, h0⟩
      | exact wpAny_bind (wpAny_pure (wpAny_pure ⟨rfl, h0⟩))
  · refine wpAny_bind (wpAny_rule ?_)
    first
      | exact wpAny_bind (wpAny_standAt (wpAny_bind (wpAny_mono (h _) (fun it2 s2 q => wpAny_pure ⟨rfl, q⟩) fun _ _ x => x)))
      | (show wpAny _ _ (standAt i1.pos >>= _) _ _ s
         exact wpAny_bind (wpAny_standAt (wpAny_bind (wpAny_mono (h _) (fun it2 s2 q => wpAny_pure ⟨rfl, q⟩) fun _ _ x => x))))
section
variable {Y : Cx}
/-- the second clause, from evaluating its source to what comes after -/
theorem nest_run {elt t0 i0 t1 i1 : Expr} {f0 f1 : List Expr} {scope : Scope} {pos : Pos} {D : Addr} {wi1 : TI} {g1 : TG} {tt1 : TT} {te : TE} {vs vs1 : List Nat} {pins : List (Addr × Obj)} {σ σ2 : L2.St} {H : Hp} {s : Shared} {Nx : Hp → Prop}
    (hc : Y.calm = true) (hxe : Y.xe = fun _ _ => False) (pi : PI Y t1 i1 wi1) (pg : PG Y t1 g1) (pt : PTs Y f1 tt1) (pe : PE Y elt te) (hs : ∀ x, foldedSetIterable i1 Y.env x = pure x) (hv : ∀ j ∈ vs1, j ∈ vs)
    (I : Inv Y pins σ2 H s) (hw : wipe σ2 vs = wipe σ vs) (h : tNest Y.w D wi1 g1 tt1 te vs1 σ2 H Nx) (nxt : Sem Fin) (Q : Fin → Shared → Prop) (E : Value → Shared → Prop)
    (k : ∀ σ9 H9 s9, Inv Y pins σ9 H9 s9 → Kn (wipe σ vs) σ9 → Nx H9 → wpAny (model Y.prog Y.w) Y.A nxt Q E s9) :
    wpAny (model Y.prog Y.w) Y.A (nestK (two elt t0 i0 t1 i1 f0 f1 scope pos) i1 (.ref D) Y.env nxt) Q E s := by
  unfold nestK
  have a1 := pi.run pins s σ2 H _ I h
  rw [hxe] at a1
  refine wpAny_bind (thnF a1 fun x s1 h1 => wpAny_bind (wpAny_standAt (wpAny_bind (wpAny_of_eq (hs x) (wpAny_bind (wpAny_holding (thnF h1 fun itv s2 h2 => ?_)))))))
  obtain ⟨it, fp, tn, J, H2, e, I2, T, st, f, W, ⟨m0, w0⟩, step⟩ := h2
  subst e
  refine wpAny_bind (wpAny_runOwn ?_)
  rw [Around.mark_none]
  have kn : Kn (wipe σ vs) (wipe σ2 vs1) := ⟨by rw [← hw, wipe_length, wipe_length], fun j v e => by
    rw [← hw] at e
    obtain ⟨e1, e2⟩ := wipe_some e
    rw [wipe_out fun z => e2 (hv j z)]
    exact e1⟩
  have loop : codeAny (model Y.prog Y.w) Y.A (.compLoop (two elt t0 i0 t1 i1 f0 f1 scope pos) 1 (.ref it) (.ref D) Y.env) (fun r s9 => match r with
      | .ok _ => wpAny (model Y.prog Y.w) Y.A nxt Q E s9
      | .error _ => False) s2 := by
    refine clause_run (vs := vs1) (BK := fun σ3 H6 Nx1 => te σ3 H6 fun y H7 => ∃ (z : Int) (S : Int → Bool) (n : Nat), y = .int z ∧ H7 D = some (SetO Y.w D S n) ∧ n + 1 < scanBound ∧ Nx1 (upd H7 D (SetO Y.w D (fun j => S j || decide (j = z)) (if S z = true then n else n + 1))))
      hc hxe (turn_inner elt t0 i0 t1 i1 f0 f1 scope pos (.ref it) (.ref D) Y.env) T pg pt (I2.weak (wipe_length _ _) fun j v e => (wipe_some e).1) st f w0 (fun k0 m H' w' => ?_) fun ps σ3 H3 s3 Nx1 I3 hw3 q3 nxt2 Q2 E2 k2 => ?_
    · rcases step k0 m H' w' with ⟨a, b⟩ | z
      · exact Or.inl ⟨a, fun s9 I9 => k _ _ _ I9 kn b⟩
      · exact Or.inr z
    · unfold emitK
      have a2 := pe.run ps s3 σ3 H3 _ I3 q3
      rw [hxe] at a2
      refine wpAny_bind (wpAny_bind (thnF a2 fun v s4 h4 => wpAny_bind (wpAny_standAt (wpAny_bind ?_))))
      obtain ⟨y, H4, I4, r4, z, S, n, ey, hD, room, nx⟩ := h4
      subst ey
      refine addI_ok I4 hD room r4 fun s5 I5 => wpAny_pure (k2 _ _ _ I5 ⟨by rw [← hw3, wipe_length], fun j v e => by rw [← hw3] at e; exact (wipe_some e).1⟩ nx)
  refine codeAny_mono (start_inner loop fun E' => T.self Y.A 0 _ _ _ st loop) fun r s9 hr => ?_
  cases r with
  | ok fl => exact hr
  | error e => exact hr.elim
end

section
variable {X : Cx}
abbrev Blk (X : Cx) (scope : Scope) (P : Cx → Prop) : Prop := ∀ (s : Shared) (H : Hp) (C : Addr) (cl : List (PySem.Str × Addr)) (fp : List Addr), P (X.blk s H scope (compEnvC scope cl C X.env) fp)
/-- the block, from where its set is laid -/
theorem outer_run {elt t0 i0 t1 i1 : Expr} {f0 f1 : List Expr} {scope : Scope} {pos : Pos} {own : List (PySem.Str × Nat)} {wi1 : TI} {g g1 : TG} {tt tt1 : TT} {te : TE} {vs1 : List Nat} {J : It} {fp : List Addr} {it D : Addr} {tn : Nat → Heap → Prop} {pins : List (Addr × Obj)} {σ : L2.St} {H : Hp} {s : Shared} {Q : VK} {Qf : Value → Shared → Prop} {W : Nat → Nat → Hp → Prop} {m0 : Nat}
    (hc : X.calm = true) (hN : X.N.Nodup) (ok : BlkOk X.N X.env.scope scope own) (I : Inv X pins σ H s) (f : ∀ b ∈ fp, FpOk X pins H b ∧ b < s.heap.objs.size) (T : Turn X.prog X.w X.K t0 J fp it tn) (st : tn 0 s.heap)
    (hg : Blk X scope fun Y => PG Y t0 g) (ht : Blk X scope fun Y => PTs Y f0 tt) (hi1 : Blk X scope fun Y => PI Y t1 i1 wi1) (hg1 : Blk X scope fun Y => PG Y t1 g1) (ht1 : Blk X scope fun Y => PTs Y f1 tt1) (he : Blk X scope fun Y => PE Y elt te)
    (hv : ∀ j ∈ vs1, j ∈ own.map (·.2)) (hs1 : ∀ env x, foldedSetIterable i1 env x = pure x) (w0 : W 0 m0 H)
    (step : ∀ k m H, W k m H → (J.stop k H ∧ Q (.ref D) H) ∨ (J.go k H ∧ ∃ Nx : Hp → Prop, (∀ H', Nx H' → ∃ m', m' < m ∧ W (k + 1) m' H') ∧ ∀ x H', J.yld k H x H' → g x (wipe σ (own.map (·.2))) H' fun σ2 H2 => wipe σ2 (own.map (·.2)) = wipe σ (own.map (·.2)) ∧ tt σ2 H2 fun b H3 =>
      if b = true then tNest X.w D wi1 g1 tt1 te vs1 σ2 H3 Nx else Nx H3))
    (back : ∀ s' m H', Inv X pins σ H' s' → Q (.ref D) H' → s'.heap.Ns s.heap.objs.size m → FpOk X pins H' s.heap.objs.size → compPost (model X.prog X.w) X.A X.xe none Qf (.ref D) s.heap.objs.size (.ok .next) s') :
    codeAny (model X.prog X.w) X.A (.compStart (two elt t0 i0 t1 i1 f0 f1 scope pos) 0 (.ref it) (.ref D) (compEnvC scope (cellsFrom (s.heap.objs.size + 1) scope.names (cloFrom X.env.cells scope.names [])) s.heap.objs.size X.env))
      (compPost (model X.prog X.w) X.A X.xe none Qf (.ref D) s.heap.objs.size) { s with heap := pushCells (s.heap.push { cls := .type "dict", data := .dict #[] }) scope.names } := by
  have I4 := block_start I ok hN f
  have pg := hg s H s.heap.objs.size (cellsFrom (s.heap.objs.size + 1) scope.names (cloFrom X.env.cells scope.names [])) fp
  have pt := ht s H s.heap.objs.size (cellsFrom (s.heap.objs.size + 1) scope.names (cloFrom X.env.cells scope.names [])) fp
  have pi := hi1 s H s.heap.objs.size (cellsFrom (s.heap.objs.size + 1) scope.names (cloFrom X.env.cells scope.names [])) fp
  have pg1 := hg1 s H s.heap.objs.size (cellsFrom (s.heap.objs.size + 1) scope.names (cloFrom X.env.cells scope.names [])) fp
  have pt1 := ht1 s H s.heap.objs.size (cellsFrom (s.heap.objs.size + 1) scope.names (cloFrom X.env.cells scope.names [])) fp
  have pe := he s H s.heap.objs.size (cellsFrom (s.heap.objs.size + 1) scope.names (cloFrom X.env.cells scope.names [])) fp
  have loc : (compEnvC scope (cellsFrom (s.heap.objs.size + 1) scope.names (cloFrom X.env.cells scope.names [])) s.heap.objs.size X.env).locals = s.heap.objs.size := rfl
  generalize compEnvC scope (cellsFrom (s.heap.objs.size + 1) scope.names (cloFrom X.env.cells scope.names [])) s.heap.objs.size X.env = ce at I4 pg pt pi pg1 pt1 pe loc ⊢
  have st4 : tn 0 ({ s with heap := pushCells (s.heap.push { cls := .type "dict", data := .dict #[] }) scope.names } : Shared).heap := T.keep _ _ _ st fun b _ o e => pushCells_keeps _ _ _ _ (Heap.get?_push_of_some _ e)
  have loop : codeAny (model X.prog X.w) X.A (.compLoop (two elt t0 i0 t1 i1 f0 f1 scope pos) 0 (.ref it) (.ref D) ce) (compPost (model X.prog X.w) X.A X.xe none Qf (.ref D) s.heap.objs.size) { s with heap := pushCells (s.heap.push { cls := .type "dict", data := .dict #[] }) scope.names } := by
    refine clause_run (Y := X.blk s H scope ce fp) (pins := []) (vs := own.map (·.2)) (BK := fun σ2 H3 Nx => tNest X.w D wi1 g1 tt1 te vs1 σ2 H3 Nx) hc rfl (turn_outer elt t0 i0 t1 i1 f0 f1 scope pos (.ref it) (.ref D) ce) T pg pt I4 st4 (fun b hb => ?_) w0 (fun k m H' w' => ?_) fun ps σ2 H3 s2 Nx I2 hw q nxt Q2 E2 k2 => ?_
    · exact ⟨(f b hb).1.1, (I4.ok.exf b hb).1, I4.ok.exfs b hb, .inl hb, fun x c e => (I4.ok.exf b hb).2 x c e, fun p hp => absurd (show p ∈ ([] : List (Addr × Obj)) ++ [] from hp) (by simp)⟩
    · rcases step k m H' w' with ⟨a, b⟩ | z
      · refine Or.inl ⟨a, fun s9 I9 => ?_⟩
        have I10 : Inv X pins σ H' s9 := I.call' (ch := fp) I9.os I9.base I9.hok I9.bare fun b hb => ⟨(f b hb).1.2.2.2.1, (f b hb).1.2.1, (f b hb).1.2.2.2.2.1, (f b hb).1.2.2.2.2.2⟩
        have free : H' s.heap.objs.size = none := by
          have z : H' ce.locals = none := I9.free
          rw [loc] at z
          exact z
        obtain ⟨m9, hn, _⟩ := I9.loc
        have hn : s9.heap.Ns ce.locals m9 := hn
        rw [loc] at hn
        exact back s9 m9 H' I10 b hn (I.fpOk (Nat.le_refl _) free)
      · exact Or.inr z
    · exact nest_run (Y := X.blk s H scope ce fp) hc rfl pi pg1 pt1 pe (hs1 ce) hv I2 hw q nxt Q2 E2 k2
  exact codeAny_compStart_set loop (T.self X.A 0 _ _ _ st4 loop)
theorem pe_sc2 {elt t0 i0 t1 i1 : Expr} {f0 f1 : List Expr} {scope : Scope} {pos : Pos} {own : List (PySem.Str × Nat)} {wi wi1 : TI} {g g1 : TG} {tt tt1 : TT} {te : TE} {vs1 : List Nat} (hc : X.calm = true) (hN : X.N.Nodup) (hi : PI X t0 i0 wi) (ok : BlkOk X.N X.env.scope scope own)
    (hg : Blk X scope fun Y => PG Y t0 g) (ht : Blk X scope fun Y => PTs Y f0 tt) (hi1 : Blk X scope fun Y => PI Y t1 i1 wi1) (hg1 : Blk X scope fun Y => PG Y t1 g1) (ht1 : Blk X scope fun Y => PTs Y f1 tt1) (he : Blk X scope fun Y => PE Y elt te)
    (hv : ∀ j ∈ vs1, j ∈ own.map (·.2) := by decide) (hs : ∀ x, foldedSetIterable i0 X.env x = pure x := by intro _; rfl) (hs1 : ∀ env x, foldedSetIterable i1 env x = pure x := by intro _ _; rfl) :
    PE X (.SetComp elt [⟨t0, i0, f0, 0⟩, ⟨t1, i1, f1, 0⟩] scope pos) (tSc2 X.w wi g tt wi1 g1 tt1 te (own.map (·.2)) vs1) := by
  refine ⟨fun pins s σ H Q I h => ?_⟩
  rw [eval_SetComp]
  have cells : ∀ y ∈ scope.names, y.2 = .free → ∃ c, X.env.cells.lookup y.1 = some c := fun y hy e => by
    rcases ok.free y hy e with k | k
    · exact I.ok.has _ (.inl k)
    · exact I.ok.has _ (.inr k)
  refine wpAny_comprehension_free (use := none) rfl hs (closure_ok cells) ok.kind (fun y hy e => by rw [ok.uniq y hy, e])
    (thn (hi.run pins s σ H _ I h) fun xv s1 h1 => thn h1 fun itv s2 h2 => ?_)
  obtain ⟨it, fp, tn, J, H2, e, I2, T, st2, f2, q⟩ := h2
  subst e
  refine newSet_ok (newEnv_comp ?_)
  have free : H2 s2.heap.objs.size = none := I2.hok.fresh (Nat.le_refl _)
  obtain ⟨W, ⟨m0, w0⟩, step⟩ := q s2.heap.objs.size free
  have keep : ∀ b o, s2.heap.get? b = some o → (s2.heap.push { cls := .type "set", dict := none, data := .set #[] 0 (.fresh 0 0 (!X.w.params.followText "set-order")) }).get? b = some o := fun b o e => Heap.get?_push_of_some _ e
  have I3 : Inv X pins σ (upd H2 s2.heap.objs.size (SetO X.w s2.heap.objs.size (fun _ => false) 0)) { s2 with heap := s2.heap.push { cls := .type "set", dict := none, data := .set #[] 0 (.fresh 0 0 (!X.w.params.followText "set-order")) } } :=
    I2.laid (t' := s2.toks) keep (Nat.le_refl _) (setO_new (setR_fresh X.w))
  refine outer_run (s := { s2 with heap := s2.heap.push { cls := .type "set", dict := none, data := .set #[] 0 (.fresh 0 0 (!X.w.params.followText "set-order")) } }) hc hN ok I3 (fun b hb => ?_) T (T.keep _ _ _ st2 fun b _ o e => keep b o e) hg ht hi1 hg1 ht1 he hv hs1 w0 step fun s' m H' I' q' hn fo => ⟨m, hn, fun h'' sb => ?_⟩
  · obtain ⟨o, e, _⟩ := T.obj _ _ st2 b hb
    have lt := Heap.lt_size e
    exact ⟨⟨by rw [upd_ne (Nat.ne_of_lt lt)]; exact (f2 b hb).1, (f2 b hb).2⟩, by rw [Heap.size_push]; exact Nat.lt_succ_of_lt lt⟩
  · obtain ⟨g0, g1', g2, g3, g4, g5⟩ := fo
    exact ⟨.ref s2.heap.objs.size, H', I'.turned (t' := s'.toks) (fun b o hb e => (sb.2 b hb).trans e) g0 g1' g3 g4 g5, rfl, q'⟩
end
end DL

set_option Elab.async false
set_option linter.all false
set_option maxRecDepth 100000
set_option maxHeartbeats 2000000
/-! The data layer: dicts. -/
namespace DL
open PySem PySem.Spec PyProof.Rows L2
open Evl (Ex Ex.refl Ex.trans Ex.new)

/-! ### tables -/
section
variable {κ β γ : Type} [DecidableEq κ]
def getA : List (κ × β) → κ → Option β
  | [], _ => none
  | p :: r, k => if p.1 = k then some p.2 else getA r k
def setA (m : List (κ × β)) (k : κ) (v : β) : List (κ × β) := if (getA m k).isSome then m.map (fun p => (p.1, if p.1 = k then v else p.2)) else m ++ [(k, v)]
theorem getA_cons (p : κ × β) (r : List (κ × β)) (k : κ) : getA (p :: r) k = if p.1 = k then some p.2 else getA r k := rfl
theorem getA_none {m : List (κ × β)} {k : κ} : getA m k = none ↔ ∀ p ∈ m, p.1 ≠ k := by
  induction m with
  | nil => simp [getA]
  | cons p r ih =>
    unfold getA
    by_cases h : p.1 = k
    · rw [if_pos h]
      simp [h]
    · rw [if_neg h, ih]
      simp [h]
theorem getA_app (m n : List (κ × β)) (k : κ) : getA (m ++ n) k = (getA m k).or (getA n k) := by
  induction m with
  | nil => simp [getA]
  | cons p r ih =>
    rw [List.cons_append, getA_cons, getA_cons]
    by_cases h : p.1 = k
    · rw [if_pos h, if_pos h]; rfl
    · rw [if_neg h, if_neg h]; exact ih
theorem getA_map (m : List (κ × β)) (k j : κ) (v : β) : getA (m.map fun p => (p.1, if p.1 = k then v else p.2)) j = (getA m j).map fun x => if j = k then v else x := by
  induction m with
  | nil => rfl
  | cons p r ih =>
    rw [List.map_cons]
    unfold getA
    by_cases h : p.1 = j
    · rw [if_pos h, if_pos h, h]; rfl
    · rw [if_neg h, if_neg h]; exact ih
theorem getA_set (m : List (κ × β)) (k j : κ) (v : β) : getA (setA m k v) j = if j = k then some v else getA m j := by
  unfold setA
  cases hk : getA m k with
  | some x =>
    rw [if_pos (show (some x).isSome = true from rfl), getA_map]
    by_cases h : j = k
    · subst h; rw [hk, if_pos rfl]; simp
    · rw [if_neg h]; cases getA m j <;> simp [h]
  | none =>
    rw [if_neg (by simp), getA_app]
    by_cases h : j = k
    · subst h; rw [hk, if_pos rfl]; simp [getA]
    · rw [if_neg h]
      have : getA [(k, v)] j = none := getA_none.mpr fun p hp => by simp at hp; subst hp; exact fun z => h z.symm
      rw [this]; cases getA m j <;> rfl
theorem setA_keys (m : List (κ × β)) (k : κ) (v : β) : (setA m k v).map (·.1) = if (getA m k).isSome then m.map (·.1) else m.map (·.1) ++ [k] := by
  unfold setA
  split
  · rw [List.map_map]; rfl
  · rw [List.map_append]; rfl
theorem getA_mem {m : List (κ × β)} {k : κ} : (getA m k).isSome = true ↔ k ∈ m.map (·.1) := by
  constructor
  · intro h
    apply Classical.byContradiction
    intro n
    have : getA m k = none := getA_none.mpr fun p hp e => n (List.mem_map.mpr ⟨p, hp, e⟩)
    rw [this] at h; cases h
  · intro h
    cases hg : getA m k with
    | some _ => rfl
    | none =>
      obtain ⟨p, hp, e⟩ := List.mem_map.mp h
      exact absurd e (getA_none.mp hg p hp)
theorem setA_nodup {m : List (κ × β)} (k : κ) (v : β) (h : (m.map (·.1)).Nodup) : ((setA m k v).map (·.1)).Nodup := by
  rw [setA_keys]
  split
  · exact h
  · rename_i n
    refine List.nodup_append.mpr ⟨h, by simp, fun a ha b hb => ?_⟩
    simp at hb
    subst hb
    intro z
    subst z
    exact n (getA_mem.mpr ha)
theorem setA_len (m : List (κ × β)) (k : κ) (v : β) : (setA m k v).length ≤ m.length + 1 := by
  unfold setA
  split
  · rw [List.length_map]; omega
  · rw [List.length_append]; exact Nat.le_refl _
variable {α : Type} [DecidableEq α]
theorem getA_enc {ek : α → κ} (hi : ∀ a b, ek a = ek b → a = b) {ev : β → γ} (m : List (α × β)) (a : α) : getA (m.map fun p => (ek p.1, ev p.2)) (ek a) = (getA m a).map ev := by
  induction m with
  | nil => rfl
  | cons p r ih =>
    rw [List.map_cons]
    unfold getA
    by_cases h : p.1 = a
    · rw [if_pos h, if_pos (by rw [h])]; rfl
    · rw [if_neg h, if_neg (fun z => h (hi _ _ z))]; exact ih
theorem setA_enc {ek : α → κ} (hi : ∀ a b, ek a = ek b → a = b) {ev : β → γ} (m : List (α × β)) (a : α) (v : β) : setA (m.map fun p => (ek p.1, ev p.2)) (ek a) (ev v) = (setA m a v).map fun p => (ek p.1, ev p.2) := by
  unfold setA
  rw [getA_enc hi, Option.isSome_map]
  split
  · rw [List.map_map, List.map_map]
    refine List.map_congr_left fun p _ => ?_
    show (ek p.1, if ek p.1 = ek a then ev v else ev p.2) = (ek p.1, ev (if p.1 = a then v else p.2))
    by_cases h : p.1 = a
    · rw [if_pos h, if_pos (by rw [h])]
    · rw [if_neg h, if_neg (fun z => h (hi _ _ z))]
  · rw [List.map_append]; rfl
end
section
variable {κ : Type} [DecidableEq κ]
theorem val_get {F : V → SV → Prop} : ∀ {ws : List (κ × V)} {kvs : List (κ × SV)}, Paired (fun p q => p.1 = q.1 ∧ F p.2 q.2) ws kvs → ∀ k, (valV ws k = none ∧ getA kvs k = none) ∨ ∃ v s, valV ws k = some v ∧ getA kvs k = some s ∧ F v s
  | _, _, .nil, k => Or.inl ⟨rfl, rfl⟩
  | _, _, .cons (a := p) (b := q) r t, k => by
    by_cases h : p.1 = k
    · exact Or.inr ⟨p.2, q.2, valV_pos h, by unfold getA; rw [if_pos (r.1 ▸ h)], r.2⟩
    · have h' : ¬ q.1 = k := r.1 ▸ h
      unfold getA
      rw [valV_neg h, if_neg h']
      exact val_get t k
theorem put_set {F : V → SV → Prop} {ws : List (κ × V)} {kvs : List (κ × SV)} {k : κ} {v : V} {s : SV} (p : Paired (fun p q => p.1 = q.1 ∧ F p.2 q.2) ws kvs) (h : F v s) : Paired (fun p q => p.1 = q.1 ∧ F p.2 q.2) (putK ws k v) (setA kvs k s) := by
  unfold putK setA
  have e : (ws.any fun kv => decide (kv.1 = k)) = (getA kvs k).isSome := by
    rw [valV_any]
    rcases val_get p k with ⟨a, b⟩ | ⟨x, y, a, b, _⟩
    · rw [a, b]; rfl
    · rw [a, b]; rfl
  rw [e]
  cases (getA kvs k).isSome with
  | true =>
    rw [if_pos rfl, if_pos rfl]
    clear e
    induction p with
    | nil => exact .nil
    | cons r t ih =>
      rename_i a b l1 l2
      rw [List.map_cons, List.map_cons]
      refine .cons ?_ ih
      by_cases hk : a.1 = k
      · rw [if_pos hk]
        exact ⟨r.1, by show F v (if b.1 = k then s else b.2); rw [if_pos (r.1 ▸ hk)]; exact h⟩
      · rw [if_neg hk]
        exact ⟨r.1, by show F a.2 (if b.1 = k then s else b.2); rw [if_neg (r.1 ▸ hk)]; exact r.2⟩
  | false =>
    rw [if_neg (by decide), if_neg (by decide)]
    exact paired_snoc p ⟨rfl, h⟩
end

/-! ### rules for a dict of the store -/
section
variable {K : PySem.W.Frag} {N : Addr → Prop} {H : Hp}
theorem dn_key {v : V} {k : Key} (h : Dn K N H v (kdat k)) : v = kV k := by cases k <;> cases h <;> rfl
theorem dn_keys : ∀ {ks : List Key} {vs : List V}, DnAll K N H vs (ks.map kdat) → vs = ks.map kV
  | [], _, h => by cases h; rfl
  | k :: ks, _, h => by
    cases h with
    | cons a b => rw [dn_key a, dn_keys b]; rfl
theorem key_dn (k : Key) : Dn K N H (kV k) (kdat k) := by cases k <;> constructor
theorem keys_dn : ∀ ks : List Key, DnAll K N H (ks.map kV) (ks.map kdat)
  | [] => .nil
  | k :: ks => .cons (key_dn k) (keys_dn ks)
theorem fix_dn {ad : Nat → Addr} {n : Nat} {v : V} {ks : List Key} (h : SvOk K N ad n H v (.t (.tup (ks.map kV)))) : Dn K N H v (tdat ks) := by
  obtain ⟨b, rfl, e, _⟩ := h
  exact .tup (SqT.of e) (keys_dn ks)
end
section
variable {w : Bool} {c : Cn} {env env' : Sy} {os : List SO} {te ta tb tl td ty tv tx : TE} {d : PyData} {u : TS} {D : Ends}
theorem ef_dnewK : EvF c env os tDNewK (.dK []) := fun ad σ H ok Q q p hp => q p _ hp (Ex.new hp) ⟨[], upd_same, .nil⟩
theorem ef_dnewT : EvF c env os tDNewT (.dT []) := fun ad σ H ok Q q p hp => q p _ hp (Ex.new hp) ⟨[], upd_same, .nil⟩
theorem ek_tup {ta : TA} {ks : List Key} (h : EvA true c env os ta (ks.map kdat)) (hl : ks.length ≤ 100000) : EvK c env os (tTup ta) (.tup (ks.map kV)) := ⟨rfl, fun ad σ H ok Q q =>
  h ad σ H ok _ fun vs H2 e r => by
    rw [dn_keys r]
    exact ⟨by rw [List.length_map]; exact Nat.le_trans hl (by decide), fun p hp => q p _ (e.trans (Ex.new hp)) upd_same⟩⟩
theorem ek_var {i : Nat} {o : HO} (h : env[i]? = some (some (.t o))) (hw : Wr o = false) : EvK c env os (tVar i) o := ⟨hw, fun ad σ H ok Q q => by
  obtain ⟨v, h1, b, rfl, e, _⟩ := ok.val i _ h
  exact ⟨_, h1, q b H (Ex.refl H) e⟩⟩
theorem ex_varT {i : Nat} {ks : List Key} (h : env[i]? = some (some (.t (.tup (ks.map kV))))) : EvX w c env os (tVar i) (tdat ks) := EvX.weak fun ad σ H ok Q q => by
  obtain ⟨v, h1, h2⟩ := ok.val i _ h
  exact ⟨v, h1, q v H (Ex.refl H) (by rw [Nw_false]; exact fix_dn h2)⟩
theorem Tg.fix {g : TG} {ks : List Key} {js : List Nat} (h : Tg c env os g (.i (tdat ks)) env' js) : Tg c env os g (.t (.tup (ks.map kV))) env' js := fun ad σ H v ok r Q q => h ad σ H v ok (show Dn _ _ _ _ _ from fix_dn r) Q q
/-- d[k] -/
theorem ex_dget {k : Nat} {kvs : List (Key × SV)} {kk : Key} (hl : EvR c env os td k) (hk : os[k]? = some (.dK kvs)) (hi : EvX true c env os ty (kdat kk)) (hg : getA kvs kk = some (.i d)) : EvX w c env os (tDGet td ty) d := EvX.weak fun ad σ H ok Q q =>
  hl.2 ad σ H ok _ fun H1 e1 => hi ad σ H1 (ok.ext e1) _ fun v H2 e2 r2 => by
    obtain ⟨_, ws, hws, pw⟩ := ((ok.ext e1).ext e2).obj k _ hk rfl
    rcases val_get (F := SvOk c.K (Nof c ad os) ad os.length H2) pw kk with ⟨_, b⟩ | ⟨x, s, a, b, f⟩
    · rw [hg] at b; cases b
    · rw [hg] at b; cases b
      exact ⟨ad k, x, rfl, by rw [dn_key r2, ← a]; exact DGet.k hws, q x H2 (e1.trans e2) (by rw [Nw_false]; exact f)⟩
/-- d.get(k, e) -/
theorem ex_dget2 {k : Nat} {kvs : List (Key × SV)} {kk : Key} {d2 : PyData} (hl : EvR c env os td k) (hk : os[k]? = some (.dK kvs)) (hi : EvX true c env os ty (kdat kk)) (hx : EvX false c env os tx d2) (hg : (getA kvs kk).getD (.i d2) = .i d) : EvX w c env os (tDGet2 td ty tx) d := EvX.weak fun ad σ H ok Q q =>
  hl.2 ad σ H ok _ fun H1 e1 => by
    obtain ⟨_, ws1, hws1, _⟩ := (ok.ext e1).obj k _ hk rfl
    refine ⟨ad k, rfl, Or.inl ⟨ws1, Or.inl hws1⟩, hi ad σ H1 (ok.ext e1) _ fun v H2 e2 r2 => hx ad σ H2 ((ok.ext e1).ext e2) _ fun z H3 e3 r3 => ?_⟩
    obtain ⟨_, ws, hws, pw⟩ := (((ok.ext e1).ext e2).ext e3).obj k _ hk rfl
    refine ⟨_, by rw [dn_key r2]; exact DGet.k hws, ?_⟩
    rcases val_get (F := SvOk c.K (Nof c ad os) ad os.length H3) pw kk with ⟨a, b⟩ | ⟨x, s, a, b, f⟩
    · rw [a]
      rw [b] at hg
      cases hg
      exact q z H3 ((e1.trans e2).trans e3) r3
    · rw [a]
      rw [b] at hg
      have hg : s = .i d := hg
      subst hg
      exact q x H3 ((e1.trans e2).trans e3) (by rw [Nw_false]; exact f)
/-- what a thing of either kind gives -/
theorem EvS.run {tv : TE} {s : SV} (h : EvS c env os tv s) {ad : Nat → Addr} {σ : L2.St} {H : Hp} (ok : Ok c ad env os σ H) {Q : VK} (q : ∀ v H2, Ex H H2 → SvOk c.K (Nof c ad os) ad os.length H2 v s → Q v H2) : tv σ H Q := by
  cases s with
  | i d => exact (show EvX false c env os tv d from h) ad σ H ok Q fun v H2 e r => q v H2 e (by rw [Nw_false] at r; exact r)
  | t o => exact (show EvK c env os tv o from h).2 ad σ H ok Q fun b H2 e r => q _ H2 e ⟨b, rfl, r, (show EvK c env os tv o from h).1⟩
  | ob C m => exact (show EvB c env os tv C m from h) ad σ H ok Q fun v H2 e r => q v H2 e r
  | r j => exact (show EvR c env os tv j from h).2 ad σ H ok Q fun H2 e => q _ H2 e ⟨rfl, (show EvR c env os tv j from h).1⟩
/-- d[k] = v -/
theorem gs_dput {k : Nat} {kvs : List (Key × SV)} {kk : Key} {s : SV} (h : EvS c env os tv s) (hl : EvR c env os td k) (hk : os[k]? = some (.dK kvs)) (hi : EvX true c env os ty (kdat kk)) (hz : kvs.length < 100000)
    (g : Go c env (os.set k (.dK (setA kvs kk s))) u D) : Go c env os (tSeq (sDPut td ty tv) u) D := fun ad σ H ok =>
  h.run ok fun v H1 e1 r => hl.2 ad σ H1 (ok.ext e1) _ fun H2 e2 => hi ad σ H2 ((ok.ext e1).ext e2) _ fun y H3 e3 r3 => by
    have ok3 := ((ok.ext e1).ext e2).ext e3
    obtain ⟨_, ws, hws, pw⟩ := ok3.obj k _ hk rfl
    have hN : Nof c ad os (ad k) := Or.inr ⟨k, ⟨_, hk, rfl⟩, rfl⟩
    refine ⟨ad k, _, rfl, ?_, g ad σ _ (ok3.mut hk rfl rfl ⟨putK ws kk v, upd_same, ?_⟩)⟩
    · rw [dn_key r3]
      exact DPut.k hws (by rw [Paired.length pw]; exact Nat.lt_of_lt_of_le hz (by decide))
    · exact put_set (Paired.imp pw fun _ _ z => ⟨z.1, z.2.mut hws rfl hN⟩) ((r.ext (e2.trans e3)).mut hws rfl hN)
/-- d[(..)] = v -/
theorem gs_dputT {k : Nat} {kvs : List (List Key × SV)} {ks : List Key} {s : SV} (h : EvS c env os tv s) (hl : EvR c env os td k) (hk : os[k]? = some (.dT kvs)) (hi : EvK c env os ty (.tup (ks.map kV))) (hz : kvs.length < 100000)
    (g : Go c env (os.set k (.dT (setA kvs ks s))) u D) : Go c env os (tSeq (sDPut td ty tv) u) D := fun ad σ H ok =>
  h.run ok fun v H1 e1 r => hl.2 ad σ H1 (ok.ext e1) _ fun H2 e2 => hi.2 ad σ H2 ((ok.ext e1).ext e2) _ fun b H3 e3 r3 => by
    have ok3 := ((ok.ext e1).ext e2).ext e3
    obtain ⟨_, ws, hws, pw⟩ := ok3.obj k _ hk rfl
    have hN : Nof c ad os (ad k) := Or.inr ⟨k, ⟨_, hk, rfl⟩, rfl⟩
    refine ⟨ad k, _, rfl, DPut.t hws r3 (by rw [Paired.length pw]; exact Nat.lt_of_lt_of_le hz (by decide)), g ad σ _ (ok3.mut hk rfl rfl ⟨putK ws ks v, upd_same, ?_⟩)⟩
    exact put_set (Paired.imp pw fun _ _ z => ⟨z.1, z.2.mut hws rfl hN⟩) ((r.ext (e2.trans e3)).mut hws rfl hN)
/-- sorted(d), keys ints -/
def srtI (ks : List Int) : List Int := ks.mergeSort fun a b => decide (a ≤ b)
theorem srtI_perm (ks : List Int) : (srtI ks).Perm ks := List.mergeSort_perm ks _
theorem srtI_sorted (ks : List Int) : (srtI ks).Pairwise (· ≤ ·) := by
  have h := List.pairwise_mergeSort (le := fun a b : Int => decide (a ≤ b)) (fun a b c h1 h2 => by simp at *; omega) (fun a b => by simp; omega) ks
  exact h.imp fun h => by simpa using h
theorem srt_uniq : ∀ {xs ys : List Int}, xs.Perm ys → xs.Pairwise (· ≤ ·) → ys.Pairwise (· ≤ ·) → xs = ys
  | [], ys, p, _, _ => (List.Perm.eq_nil p.symm).symm
  | x :: xs, [], p, _, _ => absurd p.length_eq (by simp)
  | x :: xs, y :: ys, p, h1, h2 => by
    have a1 := List.pairwise_cons.mp h1
    have a2 := List.pairwise_cons.mp h2
    have e : x = y := by
      have m1 : x ∈ y :: ys := p.mem_iff.mp (List.mem_cons_self ..)
      have m2 : y ∈ x :: xs := p.mem_iff.mpr (List.mem_cons_self ..)
      have l1 : y ≤ x := by rcases List.mem_cons.mp m1 with z | z
                            · omega
                            · exact a2.1 x z
      have l2 : x ≤ y := by rcases List.mem_cons.mp m2 with z | z
                            · omega
                            · exact a1.1 y z
      omega
    subst e
    rw [srt_uniq p.cons_inv a1.2 a2.2]
theorem ef_sortDK {k : Nat} {kvs : List (Key × SV)} {ks : List Int} (hl : EvR c env os td k) (hk : os[k]? = some (.dK kvs)) (hks : kvs.map (·.1) = ks.map Sum.inl) : EvF c env os (tCB rSortDKA (tCons td tNil)) (.lst (((srtI ks).map PyData.int).map SV.i)) := fun ad σ H ok Q q =>
  hl.2 ad σ H ok _ fun H1 e1 => by
    obtain ⟨_, ws, hws, pw⟩ := (ok.ext e1).obj k _ hk rfl
    have keys : ws.map (·.1) = kvs.map (·.1) := by
      clear hws hk hks
      generalize kvs = kvs at pw
      induction pw with
      | nil => rfl
      | cons r t ih => rw [List.map_cons, List.map_cons, r.1, ih]
    refine ⟨ad k, ws, ks, rfl, hws, keys.trans hks, fun ns p h1 h2 hp => ?_⟩
    have e : ns = srtI ks := srt_uniq (h1.trans (srtI_perm ks).symm) h2 (srtI_sorted ks)
    rw [e]
    exact q p _ (e1.free hp) (e1.trans (Ex.new hp)) ⟨_, upd_same, dn_paired (ints_dn _)⟩
end
end DL

set_option Elab.async false
set_option linter.all false
set_option maxRecDepth 100000
set_option maxHeartbeats 2000000
/-! The data layer: dicts as data, walks over keys and pairs, items that are set. -/
namespace DL
open PySem PySem.Spec PyProof.Rows L2
open Evl (Ex Ex.refl Ex.trans Ex.new)

/-! ### a dict with tuple keys, as data -/
def dTd {α β : Type} (ek : α → List Key) (ev : β → PyData) (m : List (α × β)) : PyData := .dict ((.none, .none) :: m.map fun p => (tdat (ek p.1), ev p.2))
theorem kdat_inj : ∀ {a b : Key}, kdat a = kdat b → a = b
  | .inl _, .inl _, h => by cases h; rfl
  | .inr _, .inr _, h => by cases h; rfl
  | .inl _, .inr _, h => by cases h
  | .inr _, .inl _, h => by cases h
theorem kdats_inj : ∀ {a b : List Key}, a.map kdat = b.map kdat → a = b
  | [], [], _ => rfl
  | [], _ :: _, h => by cases h
  | _ :: _, [], h => by cases h
  | x :: xs, y :: ys, h => by
    rw [List.map_cons, List.map_cons] at h
    injection h with h1 h2
    rw [kdat_inj h1, kdats_inj h2]
theorem tdat_inj {a b : List Key} (h : tdat a = tdat b) : a = b := by
  unfold tdat at h
  injection h with h
  exact kdats_inj h
section
variable {α β : Type} {K : PySem.W.Frag} {N : Addr → Prop} {H : Hp}
theorem dn_dT {ek : α → List Key} {ev : β → PyData} {m : List (α × β)} {v : V} (h : Dn K N H v (dTd ek ev m)) : ∃ a ws, v = .ref a ∧ H a = some (.dT ws) ∧ ¬ N a ∧ Paired (fun (p : List Key × V) (q : α × β) => p.1 = ek q.1 ∧ Dn K N H p.2 (ev q.2)) ws m := by
  unfold dTd at h
  cases h with
  | @dkk a ws _ r n p =>
    cases ws with
    | nil => cases p
    | cons x ws =>
      rw [List.map_cons] at p
      generalize hk : kdat x.1 = kd at p
      cases p
      obtain ⟨k, y⟩ := x
      cases k <;> cases hk
  | @dkt a ws _ r n p =>
    refine ⟨_, _, rfl, r, n, ?_⟩
    cases p with
    | cons _ p =>
      clear r
      induction m generalizing ws with
      | nil =>
        cases ws with
        | nil => exact .nil
        | cons x ws => cases p
      | cons q m ih =>
        cases ws with
        | nil => cases p
        | cons x ws =>
          rw [List.map_cons, List.map_cons] at p
          generalize hk : tdat x.1 = kd at p
          generalize hk2 : tdat (ek q.1) = kd2 at p
          cases p with
          | cons a b => exact .cons ⟨tdat_inj (hk.trans hk2.symm), a⟩ (ih b)
theorem dT_dn {ek : α → List Key} {ev : β → PyData} {m : List (α × β)} {a : Addr} {ws : List (List Key × V)} (r : H a = some (.dT ws)) (n : ¬ N a) (p : Paired (fun (p : List Key × V) (q : α × β) => p.1 = ek q.1 ∧ Dn K N H p.2 (ev q.2)) ws m) : Dn K N H (.ref a) (dTd ek ev m) := by
  refine .dkt r n (.cons .non ?_)
  clear r
  induction p with
  | nil => exact .nil
  | cons r t ih =>
    rw [List.map_cons, List.map_cons, r.1]
    exact .cons r.2 ih
theorem paired_len {γ δ : Type} {F : γ → δ → Prop} {l1 : List γ} {l2 : List δ} (h : Paired F l1 l2) : l1.length = l2.length := Paired.length h
variable [DecidableEq α]
theorem val_dT {ek : α → List Key} (hi : ∀ a b, ek a = ek b → a = b) {F : V → β → Prop} : ∀ {ws : List (List Key × V)} {m : List (α × β)}, Paired (fun (p : List Key × V) (q : α × β) => p.1 = ek q.1 ∧ F p.2 q.2) ws m → ∀ a, (valV ws (ek a) = none ∧ getA m a = none) ∨ ∃ v b, valV ws (ek a) = some v ∧ getA m a = some b ∧ F v b
  | _, _, .nil, a => Or.inl ⟨rfl, rfl⟩
  | _, _, .cons (a := p) (b := q) r t, a => by
    rw [getA_cons]
    by_cases h : q.1 = a
    · rw [if_pos h]
      exact Or.inr ⟨p.2, q.2, valV_pos (r.1.trans (by rw [h])), rfl, r.2⟩
    · rw [if_neg h, valV_neg (fun z => h (hi _ _ (r.1.symm.trans z)))]
      exact val_dT hi t a
end
section
variable {α β : Type} [DecidableEq α] {w w' : Bool} {c : Cn} {env env' : Sy} {os : List SO} {te ta tb tl td ty tv tx : TE} {d : PyData} {u : TS} {D : Ends} {ek : α → List Key} {ev : β → PyData} {m : List (α × β)}
/-- k in d -/
theorem ex_inT {a : α} (hi : ∀ a b, ek a = ek b → a = b) (hk : EvK c env os ty (.tup ((ek a).map kV))) (hd : EvX true c env os td (dTd ek ev m)) : EvX w c env os (tDIn ty td) (.bool (getA m a).isSome) := fun ad σ H ok Q q =>
  hk.2 ad σ H ok _ fun b H1 e1 r1 => hd ad σ H1 (ok.ext e1) _ fun v H2 e2 r2 => by
    obtain ⟨p, ws, rfl, hp, _, pw⟩ := dn_dT r2
    refine ⟨p, _, rfl, DGet.t hp (e2 _ _ r1), ?_⟩
    rcases val_dT (F := fun v b => Dn c.K (Nw true c ad os) H2 v (ev b)) hi pw a with ⟨x, y⟩ | ⟨v, b, x, y, _⟩
    · rw [y] at q; rw [x]; exact q _ H2 (e1.trans e2) (.bl false)
    · rw [y] at q; rw [x]; exact q _ H2 (e1.trans e2) (.bl true)
theorem ex_notinT {a : α} (hi : ∀ a b, ek a = ek b → a = b) (hk : EvK c env os ty (.tup ((ek a).map kV))) (hd : EvX true c env os td (dTd ek ev m)) : EvX w c env os (tDNotIn ty td) (.bool (!(getA m a).isSome)) := fun ad σ H ok Q q =>
  hk.2 ad σ H ok _ fun b H1 e1 r1 => hd ad σ H1 (ok.ext e1) _ fun v H2 e2 r2 => by
    obtain ⟨p, ws, rfl, hp, _, pw⟩ := dn_dT r2
    refine ⟨p, _, rfl, DGet.t hp (e2 _ _ r1), ?_⟩
    rcases val_dT (F := fun v b => Dn c.K (Nw true c ad os) H2 v (ev b)) hi pw a with ⟨x, y⟩ | ⟨v, b, x, y, _⟩
    · rw [y] at q; rw [x]; exact q _ H2 (e1.trans e2) (.bl true)
    · rw [y] at q; rw [x]; exact q _ H2 (e1.trans e2) (.bl false)
theorem ex_lenDT (hd : EvX true c env os td (dTd ek ev m)) : EvX w c env os (tCB rLenT (tCons td tNil)) (.int (m.length : Int)) := fun ad σ H ok Q q =>
  hd ad σ H ok _ fun v H2 e2 r2 => by
    obtain ⟨p, ws, rfl, hp, _, pw⟩ := dn_dT r2
    refine ⟨p, ws, rfl, hp, ?_⟩
    rw [paired_len pw]
    exact q _ H2 e2 (.int _)
/-- a dict of the store, as data for a call -/
theorem encT (m : List (α × β)) : (m.map fun p => (ek p.1, SV.i (ev p.2))).length = m.length := List.length_map _
theorem pairT {K : PySem.W.Frag} {N : Addr → Prop} {ad : Nat → Addr} {n : Nat} {H : Hp} : ∀ {ws : List (List Key × V)} {m : List (α × β)}, Paired (fun (p : List Key × V) (q : List Key × SV) => p.1 = q.1 ∧ SvOk K N ad n H p.2 q.2) ws (m.map fun p => (ek p.1, SV.i (ev p.2))) → Paired (fun (p : List Key × V) (q : α × β) => p.1 = ek q.1 ∧ Dn K N H p.2 (ev q.2)) ws m
  | _, [], h => by cases h; exact .nil
  | _, q :: m, h => by
    cases h with
    | cons a b => exact .cons a (pairT b)
theorem pairTi {K : PySem.W.Frag} {N : Addr → Prop} {ad : Nat → Addr} {n : Nat} {H : Hp} : ∀ {ws : List (List Key × V)} {m : List (α × β)}, Paired (fun (p : List Key × V) (q : α × β) => p.1 = ek q.1 ∧ Dn K N H p.2 (ev q.2)) ws m → Paired (fun (p : List Key × V) (q : List Key × SV) => p.1 = q.1 ∧ SvOk K N ad n H p.2 q.2) ws (m.map fun p => (ek p.1, SV.i (ev p.2)))
  | _, _, .nil => .nil
  | _, _, .cons r t => .cons r (pairTi t)
theorem EvF.evT (h : EvF c env os te (.dT (m.map fun p => (ek p.1, SV.i (ev p.2))))) : EvX w c env os te (dTd ek ev m) := EvX.weak fun ad σ H ok Q q => h ad σ H ok Q fun p H2 hp e r => by
  obtain ⟨ws, h1, h2⟩ := r
  refine q _ H2 e ?_
  rw [Nw_false]
  exact dT_dn h1 (fun z => ok.nof z hp) (Paired.imp (pairT h2) fun _ _ z => ⟨z.1, z.2.sub fun a y => Or.inl y⟩)
/-- a fresh dict is told by a def -/
def spT {α β : Type} (K : PySem.W.Frag) (ek : α → List Key) (ev : β → PyData) (R : List PyData → List (α × β) → Prop) : Sp := fun vs H Q _ => ∃ (N : Addr → Prop) (ds : List PyData) (m : List (α × β)), (∀ a, N a → H a ≠ none) ∧ DnAll K N H vs ds ∧ R ds m ∧
  ∀ p H' ws, H p = none → Ex H H' → H' p = some (.dT ws) → Paired (fun (x : List Key × V) (y : α × β) => x.1 = ek y.1 ∧ Dn K (fun a => N a ∨ a = p) H' x.2 (ev y.2)) ws m → Q (.ref p) H'
theorem ef_callT {R : List PyData → List (α × β) → Prop} {E : XK} {ta : TA} {ds : List PyData} (h : EvA false c env os ta ds) (hR : R ds m) : EvF c env os (tCall (spT c.K ek ev R) [] E ta) (.dT (m.map fun p => (ek p.1, SV.i (ev p.2)))) := fun ad σ H ok Q q =>
  h ad σ H ok _ fun vs H2 e a => by
    rw [List.append_nil]
    rw [Nw_false] at a
    exact ⟨Nof c ad os, ds, m, fun b z => (ok.ext e).nof z, a, hR, fun p H' ws hp e' h1 h2 => q p H' (e.free hp) (e.trans e') ⟨ws, h1, pairTi h2⟩⟩
theorem spT_len {K : PySem.W.Frag} {R : List PyData → List (α × β) → Prop} {n : Nat} (hR : ∀ ds d, R ds d → ds.length = n) : ∀ vs H Q E, spT K ek ev R vs H Q E → vs.length = n := fun vs H Q E ⟨N, ds, d, _, h, r, _⟩ => h.length.trans (hR ds d r)
def RetT (ek : α → List Key) (ev : β → PyData) (c : Cn) (m : List (α × β)) (D : Ends) : Prop := ∀ p H2 ws, c.H0 p = none → (∀ a o, c.H0 a = some o → ¬ c.M a → H2 a = some o) → H2 p = some (.dT ws) → Paired (fun (x : List Key × V) (y : α × β) => x.1 = ek y.1 ∧ Dn c.K (fun a => c.N0 a ∨ a = p) H2 x.2 (ev y.2)) ws m → D.rt (.ref p) H2
theorem gs_retT {k : Nat} (h : EvR c env os te k) (hk : os[k]? = some (.dT (m.map fun p => (ek p.1, SV.i (ev p.2))))) (hM : ∀ a, ¬ c.M a) (q : RetT ek ev c m D) : Go c env os (tSeq (tRet te) u) D := fun ad σ H ok =>
  h.2 ad σ H ok _ fun H2 e => by
    have ok2 := ok.ext e
    obtain ⟨h0, vs, h1, h2⟩ := ok2.obj k _ hk rfl
    refine q (ad k) H2 vs (h0.resolve_right (hM _)) ok2.ex h1 (Paired.imp (pairT h2) fun x y z => ⟨z.1, z.2.sub fun a y => ?_⟩)
    rcases y with y | y
    · exact Or.inl y
    · exact Or.inr ⟨k, ⟨_, hk, rfl⟩, y⟩
theorem run_spT {K : PySem.W.Frag} {R : List PyData → List (α × β) → Prop} {vs : List V} {H : Hp} {Q : VK} {E : XK} {Nm : List Str} {t : TS} (h : spT K ek ev R vs H Q E)
    (g : ∀ N ds m, R ds m → RetT ek ev ⟨K, H, N, fun _ => False, [], 0⟩ m (De Q) → Go ⟨K, H, N, fun _ => False, [], 0⟩ (env0 Nm.length ds) [] t (De Q)) : t (De Q) (L2.start Nm vs) H := by
  obtain ⟨N, ds, m, hN, hv, hR, hq⟩ := h
  exact g N ds m hR (fun p H2 ws hp e h1 h2 => hq p H2 ws hp (fun a o z => e a o z fun y => y) h1 h2) _ _ _ (ok_start hN hv)
end

/-! ### walks -/
/-- a new object is held fast from here on -/
def tFrz (te : TE) : TE := fun σ H Q => te σ H fun x H1 => ∃ d u, x = .ref d ∧ H1 d = some u ∧ Mut (some u) ∧ ∀ od, Q (.ref d) (upd H1 d (.frz od u))
theorem pe_frz {X : Cx} {e : Expr} {te : TE} (h : PE X e te) : PE X e (tFrz te) := ⟨fun pins s σ H Q I hw => wpAny_mono (h.run pins s σ H _ I hw) (fun v s1 h1 => by
  obtain ⟨x, H1, I1, r, d, u, rfl, hd, mu, q⟩ := h1
  obtain ⟨od, I2⟩ := I1.lock hd mu
  exact ⟨.ref d, _, I2, r, q od⟩) fun _ _ z => z⟩
section
variable {α β : Type} {w w' : Bool} {c : Cn} {env env' : Sy} {os : List SO} {te ta tb tl td ty tv tx : TE} {d : PyData} {u : TS} {D : Ends}
theorem Mut.wr {u : HO} (h : Mut (some u)) : Wr u = true := by cases u <;> first | rfl | cases h
/-- an object of the store is given away and changed -/
theorem Ok.kill {ad : Nat → Addr} {σ : L2.St} {H : Hp} {o : SO} {k : Nat} {u' : HO} (ok : Ok c ad env os σ H) (h0 : os[k]? = some o) (l0 : o.live = true) : Ok c ad env (os.set k .x) σ (upd H (ad k) u') := by
  have lk : Lv os k := ⟨o, h0, l0⟩
  have hl : ∀ j, Lv (os.set k .x) j → Lv os j ∧ j ≠ k := fun j h => by
    obtain ⟨u, e, hu⟩ := h
    by_cases q : k = j
    · subst q
      rw [List.getElem?_set_self (List.getElem?_eq_some_iff.mp h0).1] at e
      cases e; cases hu
    · rw [List.getElem?_set_ne q] at e; exact ⟨⟨u, e, hu⟩, fun z => q z.symm⟩
  have hN : ∀ a, Nof c ad (os.set k .x) a → Nof c ad os a := fun a h => by
    rcases h with h | ⟨j, l, e⟩
    · exact Or.inl h
    · exact Or.inr ⟨j, (hl j l).1, e⟩
  obtain ⟨hk0, hk1⟩ := ok.obj k o h0 l0
  obtain ⟨u0, eu, wu⟩ := hk1.some l0
  have hNk : Nof c ad os (ad k) := Or.inr ⟨k, lk, rfl⟩
  have hv : ∀ v s, SvOk c.K (Nof c ad os) ad os.length H v s → SvOk c.K (Nof c ad (os.set k .x)) ad (os.set k .x).length (upd H (ad k) u') v s := fun v s h => by
    rw [List.length_set]
    exact (h.mut eu wu hNk).sub hN
  refine ⟨ok.len, fun a x h m => ?_, fun a h => ?_, fun i s h => ?_, fun j x h l => ?_, fun a b la lb => ok.inj a b (hl a la).1 (hl b lb).1, fun a la => ok.nn a (hl a la).1, fun q hq => ((ok.frm q hq).mut eu wu hNk).sub hN, by rw [List.length_set]; exact ok.low⟩
  · by_cases q : a = ad k
    · subst q
      rcases hk0 with z | z
      · rw [z] at h; cases h
      · exact absurd z m
    · rw [upd_ne q]; exact ok.ex a x h m
  · by_cases q : a = ad k
    · rw [q, upd_same]; exact fun z => nomatch z
    · rw [upd_ne q]; exact ok.n0 a h
  · obtain ⟨v, h1, h2⟩ := ok.val i s h
    exact ⟨v, h1, hv v s h2⟩
  · by_cases q : k = j
    · subst q
      rw [List.getElem?_set_self (List.getElem?_eq_some_iff.mp h0).1] at h
      cases h; cases l
    · rw [List.getElem?_set_ne q] at h
      obtain ⟨h1, h2⟩ := ok.obj j x h l
      refine ⟨h1, h2.map hv fun y hy => ?_⟩
      rw [upd_ne]
      · exact hy
      · intro z
        exact q (ok.inj k j lk ⟨x, h, l⟩ z.symm)
/-- as EvW; the walk takes what it goes over -/
def EvW2 (c : Cn) (env : Sy) (os os2 : List SO) (wi : TI) (n : Nat) (it : Nat → SV) (G : List SO → Prop) : Prop := ∀ ad σ H, Ok c ad env os σ H → ∀ R : It → Hp → Prop,
  (∀ J H1 fr, Ok (c.w fr os.length) ad env os2 σ H1 → (∀ ad' env' os' σ' H', Ok (c.w fr os.length) ad' env' os' σ' H' → Ok c ad' env' os' σ' H') → WalkD (c.w fr os.length) J n it G → R J H1) → wi σ H R
theorem EvW.two {wi : TI} {n : Nat} {it : Nat → SV} {G : List SO → Prop} (h : EvW c env os wi n it G) : EvW2 c env os os wi n it G := fun ad σ H ok R q => h ad σ H ok R fun J H1 fr _ => q J H1 fr
def itK (kvs : List (List Key × SV)) : Nat → SV := fun i => .t (.tup (((kvs.getD i ([], .i .none)).1).map kV))
theorem keys_walk {c : Cn} {fr : List (V × SV)} {lo : Nat} {d : Addr} {od : Obj} {ws : List (List Key × V)} {kvs : List (List Key × SV)} (hk : ws.map (·.1) = kvs.map (·.1)) : WalkD (c.w ((.ref d, .t (.frz od (.dT ws))) :: fr) lo) (Itkt d od ws) kvs.length (itK kvs) (fun _ => True) := by
  have len : ws.length = kvs.length := by simpa using congrArg List.length hk
  have at' : ∀ {ad env os σ H}, Ok (c.w ((.ref d, .t (.frz od (.dT ws))) :: fr) lo) ad env os σ H → H d = some (.frz od (.dT ws)) := fun o => by
    obtain ⟨b, e1, e2, _⟩ := o.frm _ (List.mem_cons_self ..)
    cases e1
    exact e2
  refine ⟨fun i ad env os σ H hi o _ => ⟨at' o, by rw [len]; exact hi⟩, fun ad env os σ H o _ => ⟨at' o, by rw [len]; exact Nat.le_refl _⟩, fun i ad env os σ H x H' hi o _ y => ?_⟩
  obtain ⟨rfl, k, v, q, h1, rfl, h2⟩ := y
  refine ⟨Ex.refl _, ?_⟩
  have e : (kvs.getD i ([], .i .none)).1 = k := by
    have h3 : (ws.map (·.1))[i]? = some k := by rw [List.getElem?_map, h1]; rfl
    rw [hk, List.getElem?_map] at h3
    rw [List.getD_eq_getElem?_getD]
    cases hx : kvs[i]? with
    | none => rw [hx] at h3; cases h3
    | some y => rw [hx] at h3; exact Option.some.inj h3
  show SvOk _ _ _ _ _ _ (.t (.tup _))
  rw [e]
  exact ⟨q, rfl, h2, rfl⟩
theorem paired_keys {κ : Type} {F : V → SV → Prop} : ∀ {ws : List (κ × V)} {kvs : List (κ × SV)}, Paired (fun p q => p.1 = q.1 ∧ F p.2 q.2) ws kvs → ws.map (·.1) = kvs.map (·.1)
  | _, _, .nil => rfl
  | _, _, .cons r t => by rw [List.map_cons, List.map_cons, r.1, paired_keys t]
/-- the keys of a new dict -/
theorem ew_keysF {kvs : List (List Key × SV)} (h : EvF c env os td (.dT kvs)) : EvW2 c env os os (iKeys (tFrz td)) kvs.length (itK kvs) (fun _ => True) := fun ad σ H ok R q =>
  h ad σ H ok _ fun p H2 hp e r => by
    obtain ⟨ws, hws, pw⟩ := r
    refine ⟨p, _, rfl, hws, trivial, fun od => ⟨p, od, rfl, Or.inr ⟨ws, upd_same, ?_⟩⟩⟩
    have ex : Ex H (upd H2 p (.frz od (.dT ws))) := fun a o z => by
      rw [upd_ne (show a ≠ p from fun y => by subst y; rw [hp] at z; cases z)]
      exact e a o z
    exact q _ _ ((.ref p, .t (.frz od (.dT ws))) :: c.fr) ((ok.ext ex).pin ⟨p, rfl, upd_same, rfl⟩) (up_pin (ok.ext ex)) (keys_walk (paired_keys (F := SvOk c.K (fun a => Nof c ad os a ∨ a = p) ad os.length H2) pw))
/-- .. of a dict of the store, which is given away -/
theorem ew_keysO {k : Nat} {kvs : List (List Key × SV)} (h : EvR c env os td k) (hk : os[k]? = some (.dT kvs)) : EvW2 c env os (os.set k .x) (iKeys (tFrz td)) kvs.length (itK kvs) (fun _ => True) := fun ad σ H ok R q =>
  h.2 ad σ H ok _ fun H2 e => by
    have ok2 := ok.ext e
    obtain ⟨_, ws, hws, pw⟩ := ok2.obj k _ hk rfl
    refine ⟨ad k, _, rfl, hws, trivial, fun od => ⟨ad k, od, rfl, Or.inr ⟨ws, upd_same, ?_⟩⟩⟩
    have ok3 := ok2.kill (u' := .frz od (.dT ws)) hk rfl
    have hp := ok3.pin (v := .ref (ad k)) (s := .t (.frz od (.dT ws))) ⟨ad k, rfl, upd_same, rfl⟩
    have hu := up_pin (v := .ref (ad k)) (s := .t (.frz od (.dT ws))) ok3
    rw [List.length_set] at hp hu
    exact q _ _ _ hp hu (keys_walk (paired_keys (F := SvOk c.K (Nof c ad os) ad os.length H2) pw))
/-- zip of two lists of data -/
theorem ew_zip {as bs : List PyData} (ha : EvX false c env os ta (.list as)) (hb : EvX false c env os tb (.list bs)) : EvW c env os (iZip c.K (tCons ta (tCons tb tNil))) (min as.length bs.length) (fun i => .i (.tuple [as.getD i .none, bs.getD i .none])) (fun _ => True) := fun ad σ H ok R q =>
  ha ad σ H ok _ fun va H1 e1 r1 => hb ad σ H1 (ok.ext e1) _ fun vb H2 e2 r2 => by
    rw [Nw_false] at r1 r2
    have r1 := r1.ext e2
    obtain ⟨a, rfl⟩ := dn_list_ref r1
    obtain ⟨b, rfl⟩ := dn_list_ref r2
    obtain ⟨xs, hx, _⟩ := sql_of_dn r1
    obtain ⟨ys, hy, _⟩ := sql_of_dn r2
    have ok2 := (ok.ext e1).ext e2
    have p1 := ok2.pin (v := .ref a) (s := .i (.list as)) r1
    have p2 := p1.pin (v := .ref b) (s := .i (.list bs)) r2
    refine ⟨a, b, xs, ys, rfl, hx, hy, q _ H2 ((.ref b, .i (.list bs)) :: (.ref a, .i (.list as)) :: c.fr) (e1.trans e2) p2 (fun ad' env' os' σ' H' o => up_pin ok2 ad' env' os' σ' H' (up_pin p1 ad' env' os' σ' H' o)) ⟨fun i ad' env' os' σ' H' hi o _ => ?_, fun ad' env' os' σ' H' o _ => ?_, fun i ad' env' os' σ' H' x H'' hi o _ y => ?_⟩⟩
    all_goals
      have qa : Dn c.K (Nof c ad' os') H' (.ref a) (.list as) := o.frm _ (List.mem_cons_of_mem _ (List.mem_cons_self ..))
      have qb : Dn c.K (Nof c ad' os') H' (.ref b) (.list bs) := o.frm _ (List.mem_cons_self ..)
      obtain ⟨xs', hx', ax⟩ := sql_of_dn qa
      obtain ⟨ys', hy', ay⟩ := sql_of_dn qb
      have la := ax.length
      have lb := ay.length
    · have h1 : i < xs'.length := by omega
      have h2 : i < ys'.length := by omega
      exact ⟨xs', ys', xs'[i], ys'[i], hx', hy', List.getElem?_eq_getElem h1, List.getElem?_eq_getElem h2⟩
    · exact ⟨xs', ys', hx', hy', by omega⟩
    · obtain ⟨T, x1, y1, rfl, hT, rfl, fx, fy⟩ := y
      obtain ⟨d1, g1, k1⟩ := ax.getV (fx xs' hx')
      obtain ⟨d2, g2, k2⟩ := ay.getV (fy ys' hy')
      refine ⟨Ex.new hT, ?_⟩
      show Dn _ _ _ _ _
      rw [List.getD_eq_getElem?_getD, List.getD_eq_getElem?_getD, g1, g2]
      exact .tup (SqT.of upd_same) (.cons (k1.ext (Ex.new hT)) (.cons (k2.ext (Ex.new hT)) .nil))
/-- a for, as gs_for -/
theorem gs_for2 {g : TG} {tb u : TS} {D : Ends} {wi : TI} {n : Nat} {it : Nat → SV} {G : List SO → Prop} {os2 : List SO} (E : Nat → Sy) (O : Nat → List SO) (hw : EvW2 c env os os2 wi n it G)
    (h0 : ∀ c' : Cn, c'.lo = os.length → ∀ ad σ H, Ok c' ad env os2 σ H → Ok c' ad (E 0) (O 0) σ H) (hG : ∀ i, i ≤ n → G (O i))
    (hs : ∀ fr, Up c (c.w fr os.length) → ∀ i, i < n → ∃ env' js, Tg (c.w fr os.length) (E i) (O i) g (it i) env' js ∧ Go (c.w fr os.length) env' (O i) tb { D with nx := OkE (c.w fr os.length) (E (i + 1)) (O (i + 1)), ct := OkE (c.w fr os.length) (E (i + 1)) (O (i + 1)), bk := u D })
    (hd : Go c (E n) (O n) u D) : Go c env os (tSeq (tFor wi g tb) u) D := fun ad σ H ok => by
  refine hw ad σ H ok _ fun J H1 fr ok1 up W => ?_
  refine ⟨fun i m σ H => m = n - i ∧ i ≤ n ∧ OkE (c.w fr os.length) (E i) (O i) σ H, ⟨n, by simp, Nat.zero_le _, ad, h0 _ rfl ad σ H1 ok1⟩, ?_⟩
  rintro i m σ H ⟨rfl, hi, ad', ok'⟩
  by_cases hlt : i < n
  · refine .inr ⟨W.goes i _ _ _ _ _ hlt ok' (hG i hi), OkE (c.w fr os.length) (E (i + 1)) (O (i + 1)), fun σ' H' p' => ⟨n - (i + 1), by omega, rfl, hlt, p'⟩, fun x H' y => ?_⟩
    obtain ⟨e2, r⟩ := W.yields i _ _ _ _ _ x H' hlt ok' (hG i hi) y
    obtain ⟨env', js, ht, hb⟩ := hs fr up i hlt
    exact ht ad' σ H' x (ok'.ext e2) r _ fun σ2 ok2 _ => hb ad' σ2 H' ok2
  · have q : i = n := by omega
    subst q
    exact .inl ⟨W.stops _ _ _ _ _ ok' (hG i hi), hd ad' σ H (up _ _ _ _ _ ok')⟩
theorem gs_for2L {g : TG} {tb u : TS} {D : Ends} {γ : Type} {wi : TI} {xs : List γ} {e : γ → SV} {n : Nat} {it : Nat → SV} {G : List SO → Prop} {os2 : List SO} (E : List γ → Sy) (O : List γ → List SO) (hw : EvW2 c env os os2 wi n it G) (hn : n = xs.length) (hit : ∀ i x, xs[i]? = some x → it i = e x)
    (h0 : ∀ c' : Cn, c'.lo = os.length → ∀ ad σ H, Ok c' ad env os2 σ H → Ok c' ad (E []) (O []) σ H) (hG : ∀ pre post, xs = pre ++ post → G (O pre))
    (hs : ∀ fr, Up c (c.w fr os.length) → ∀ pre x post, xs = pre ++ x :: post → ∃ env' js, Tg (c.w fr os.length) (E pre) (O pre) g (e x) env' js ∧ Go (c.w fr os.length) env' (O pre) tb { D with nx := OkE (c.w fr os.length) (E (pre ++ [x])) (O (pre ++ [x])), ct := OkE (c.w fr os.length) (E (pre ++ [x])) (O (pre ++ [x])), bk := u D })
    (hd : Go c (E xs) (O xs) u D) : Go c env os (tSeq (tFor wi g tb) u) D := by
  subst hn
  refine gs_for2 (fun i => E (xs.take i)) (fun i => O (xs.take i)) hw (fun c' hc => by simpa using h0 c' hc) (fun i hi => hG _ (xs.drop i) (List.take_append_drop i xs).symm) (fun fr up i hi => ?_) (by simpa using hd)
  have e1 : xs = xs.take i ++ xs[i] :: xs.drop (i + 1) := by
    rw [List.getElem_cons_drop]; exact (List.take_append_drop i xs).symm
  obtain ⟨env', js, h1, h2⟩ := hs fr up (xs.take i) xs[i] (xs.drop (i + 1)) e1
  rw [hit i xs[i] (List.getElem?_eq_getElem hi)]
  refine ⟨env', js, h1, ?_⟩
  have e2 : xs.take (i + 1) = xs.take i ++ [xs[i]] := by rw [List.take_succ, List.getElem?_eq_getElem hi]; rfl
  simp only [e2]
  exact h2

/-! ### parts of a tuple, items that are set -/
theorem ex_sliceT {tl th : TO} {ds : List PyData} {lo hi : Option Int} (h : EvX w c env os te (.tuple ds)) (h1 : EvO c env os tl lo) (h2 : EvO c env os th hi) (hw : ¬ (HT.sIx ds.length 0 lo = 0 ∧ HT.sIx ds.length ds.length hi = ds.length)) : EvX w c env os (tSl (rSlT c.K) te tl th) (.tuple (cutG ds lo hi)) := fun ad σ H ok Q q =>
  h ad σ H ok _ fun v H1 e1 r1 => h1 ad σ H1 (ok.ext e1) _ fun H2 e2 => h2 ad σ H2 ((ok.ext e1).ext e2) _ fun H3 e3 => by
    obtain ⟨a, xs, rfl, hs, ha⟩ := dn_tup_ref (r1.ext (e2.trans e3))
    refine ⟨a, xs, rfl, hs, by rw [ha.length]; exact hw, fun p hp => q _ _ (((e1.trans e2).trans e3).trans (Ex.new hp)) (.tup (SqT.of upd_same) ?_)⟩
    unfold cutV cutG
    rw [ha.length]
    exact ((ha.drop _).take _).ext (Ex.new hp)
theorem paired_set {γ δ : Type} {F : γ → δ → Prop} {a : γ} {b : δ} : ∀ {l1 : List γ} {l2 : List δ} (j : Nat), Paired F l1 l2 → F a b → Paired F (l1.set j a) (l2.set j b)
  | _, _, _, .nil, _ => .nil
  | _, _, 0, .cons r t, h => .cons h t
  | _, _, j + 1, .cons r t, h => .cons r (paired_set j t h)
/-- xs[i] = e -/
theorem gs_setI {k j : Nat} {ss : List SV} {s : SV} {i : Int} (h : EvS c env os te s) (hl : EvR c env os tl k) (hk : os[k]? = some (.lst ss)) (hi : EvX true c env os tb (.int i)) (hj : ixN ss.length i = some j)
    (g : Go c env (os.set k (.lst (ss.set j s))) u D) : Go c env os (tSeq (tAsg te (gSub tl tb rSetL)) u) D := fun ad σ H ok =>
  h.run ok fun v H1 e1 r => hl.2 ad σ H1 (ok.ext e1) _ fun H2 e2 => hi ad σ H2 ((ok.ext e1).ext e2) _ fun y H3 e3 r3 => by
    have ok3 := ((ok.ext e1).ext e2).ext e3
    obtain ⟨_, vs, hvs, pv⟩ := ok3.obj k _ hk rfl
    have hN : Nof c ad os (ad k) := Or.inr ⟨k, ⟨_, hk, rfl⟩, rfl⟩
    refine ⟨ad k, vs, i, j, rfl, dn_int r3, hvs, by rw [Paired.length pv]; exact hj, g ad σ _ (ok3.mut hk rfl rfl ⟨vs.set j v, upd_same, ?_⟩)⟩
    exact paired_set j (Paired.imp pv fun _ _ z => z.mut hvs rfl hN) ((r.ext (e2.trans e3)).mut hvs rfl hN)
end
end DL

set_option Elab.async false
set_option linter.all false
set_option maxRecDepth 100000
set_option maxHeartbeats 4000000
/-! The data layer: sets of ints by comprehension. -/
namespace DL
open PySem PySem.Spec PyProof.Rows L2
open Evl (Ex Ex.refl Ex.trans Ex.new)
def addS (p : (Int → Bool) × Nat) (z : Int) : (Int → Bool) × Nat := (fun j => p.1 j || decide (j = z), if p.1 z = true then p.2 else p.2 + 1)
def setOf (zs : List Int) : (Int → Bool) × Nat := zs.foldl addS (fun _ => false, 0)
theorem setOf_snoc (zs : List Int) (z : Int) : setOf (zs ++ [z]) = addS (setOf zs) z := by unfold setOf; rw [List.foldl_append]; rfl
theorem setOf_mem (zs : List Int) : ∀ j, (setOf zs).1 j = decide (j ∈ zs) := by
  have key : ∀ n, ∀ zs : List Int, zs.length = n → ∀ j, (setOf zs).1 j = decide (j ∈ zs) := by
    intro n
    induction n with
    | zero => intro zs h j; rw [List.length_eq_zero_iff.mp h]; rfl
    | succ n ih =>
      intro zs h j
      obtain ⟨ys, y, rfl⟩ : ∃ ys y, zs = ys ++ [y] := by
        have ne : zs ≠ [] := fun z => by rw [z] at h; cases h
        exact ⟨zs.dropLast, zs.getLast ne, (List.dropLast_concat_getLast ne).symm⟩
      rw [setOf_snoc]
      show ((setOf ys).1 j || decide (j = y)) = _
      rw [ih ys (by simpa using h) j]
      by_cases h1 : j ∈ ys <;> by_cases h2 : j = y <;> simp [h1, h2]
  exact key _ zs rfl
/-- the count is at most that of any list that has them all -/
theorem setOf_le (zs Z : List Int) (h : ∀ z ∈ zs, z ∈ Z) : ∃ l : List Int, l.Nodup ∧ l.length = (setOf zs).2 ∧ ∀ j, j ∈ l ↔ j ∈ zs := by
  have key : ∀ n, ∀ zs : List Int, zs.length = n → ∃ l : List Int, l.Nodup ∧ l.length = (setOf zs).2 ∧ ∀ j, j ∈ l ↔ j ∈ zs := by
    intro n
    induction n with
    | zero => intro zs h; rw [List.length_eq_zero_iff.mp h]; exact ⟨[], List.nodup_nil, rfl, fun j => Iff.rfl⟩
    | succ n ih =>
      intro zs h
      obtain ⟨ys, y, rfl⟩ : ∃ ys y, zs = ys ++ [y] := by
        have ne : zs ≠ [] := fun z => by rw [z] at h; cases h
        exact ⟨zs.dropLast, zs.getLast ne, (List.dropLast_concat_getLast ne).symm⟩
      obtain ⟨l, h1, h2, h3⟩ := ih ys (by simpa using h)
      rw [setOf_snoc]
      show ∃ l : List Int, l.Nodup ∧ l.length = (if (setOf ys).1 y = true then (setOf ys).2 else (setOf ys).2 + 1) ∧ _
      rw [setOf_mem]
      by_cases hy : y ∈ ys
      · refine ⟨l, h1, by rw [if_pos (by simpa using hy)]; exact h2, fun j => ?_⟩
        rw [h3 j, List.mem_append, List.mem_singleton]
        exact ⟨Or.inl, fun z => z.elim id fun e => e ▸ hy⟩
      · refine ⟨y :: l, List.nodup_cons.mpr ⟨fun z => hy ((h3 y).mp z), h1⟩, by rw [if_neg (by simpa using hy), List.length_cons, h2], fun j => ?_⟩
        rw [List.mem_cons, h3 j, List.mem_append, List.mem_singleton]
        exact ⟨fun z => z.symm, fun z => z.symm⟩
  exact key _ zs rfl
theorem nodup_le : ∀ {l Z : List Int}, l.Nodup → (∀ z ∈ l, z ∈ Z) → l.length ≤ Z.length
  | [], Z, _, _ => Nat.zero_le _
  | x :: l, Z, h, s => by
    obtain ⟨h1, h2⟩ := List.nodup_cons.mp h
    have hx := s x (List.mem_cons_self ..)
    have := nodup_le (l := l) (Z := Z.erase x) h2 fun z hz => (List.mem_erase_of_ne (show z ≠ x from fun e => h1 (e ▸ hz))).mpr (s z (List.mem_cons_of_mem _ hz))
    rw [List.length_erase_of_mem hx] at this
    have : 0 < Z.length := List.length_pos_of_mem hx
    rw [List.length_cons]
    omega
theorem setOf_bound {zs Z : List Int} (h : ∀ z ∈ zs, z ∈ Z) : (setOf zs).2 ≤ Z.length := by
  obtain ⟨l, h1, h2, h3⟩ := setOf_le zs Z h
  rw [← h2]
  exact nodup_le h1 fun z hz => h z ((h3 z).mp hz)
/-- each once, ascending -/
def dd : List Int → List Int
  | [] => []
  | z :: zs => if z ∈ zs then dd zs else z :: dd zs
theorem dd_mem : ∀ {zs : List Int} {j : Int}, j ∈ dd zs ↔ j ∈ zs
  | [], j => Iff.rfl
  | z :: zs, j => by
    unfold dd
    split
    · rename_i h
      rw [dd_mem, List.mem_cons]
      exact ⟨Or.inr, fun q => q.elim (fun e => e ▸ h) id⟩
    · rw [List.mem_cons, List.mem_cons, dd_mem]
theorem dd_nodup : ∀ zs : List Int, (dd zs).Nodup
  | [] => List.nodup_nil
  | z :: zs => by
    unfold dd
    split
    · exact dd_nodup zs
    · rename_i h
      exact List.nodup_cons.mpr ⟨fun q => h (dd_mem.mp q), dd_nodup zs⟩
def asc (zs : List Int) : List Int := srtI (dd zs)
theorem asc_mem {zs : List Int} {j : Int} : j ∈ asc zs ↔ j ∈ zs := by unfold asc; rw [(srtI_perm _).mem_iff, dd_mem]
theorem asc_lt (zs : List Int) : (asc zs).Pairwise (· < ·) := by
  have h1 := srtI_sorted (dd zs)
  have h2 : (srtI (dd zs)).Nodup := (srtI_perm _).nodup_iff.mpr (dd_nodup zs)
  exact lt_of_le_nodup _ h1 h2
theorem asc_uniq : ∀ {xs ys : List Int}, xs.Pairwise (· < ·) → ys.Pairwise (· < ·) → (∀ j, j ∈ xs ↔ j ∈ ys) → xs = ys
  | [], [], _, _, _ => rfl
  | [], y :: ys, _, _, h => absurd ((h y).mpr (List.mem_cons_self ..)) (List.not_mem_nil)
  | x :: xs, [], _, _, h => absurd ((h x).mp (List.mem_cons_self ..)) (List.not_mem_nil)
  | x :: xs, y :: ys, h1, h2, h => by
    have a1 := List.pairwise_cons.mp h1
    have a2 := List.pairwise_cons.mp h2
    have e : x = y := by
      have m1 := (h x).mp (List.mem_cons_self ..)
      have m2 := (h y).mpr (List.mem_cons_self ..)
      rcases List.mem_cons.mp m1 with z | z
      · exact z
      · rcases List.mem_cons.mp m2 with z' | z'
        · exact z'.symm
        · have b1 := a2.1 x z
          have b2 := a1.1 y z'
          omega
    subst e
    rw [asc_uniq a1.2 a2.2 fun j => ?_]
    constructor
    · intro hj
      rcases List.mem_cons.mp ((h j).mp (List.mem_cons_of_mem _ hj)) with z | z
      · have := a1.1 j hj; omega
      · exact z
    · intro hj
      rcases List.mem_cons.mp ((h j).mpr (List.mem_cons_of_mem _ hj)) with z | z
      · have := a2.1 j hj; omega
      · exact z
theorem wipe_idem (vs : List Nat) (σ : L2.St) : wipe (wipe σ vs) vs = wipe σ vs := by
  have go : ∀ (us : List Nat) (τ : L2.St), (∀ j ∈ us, τ[j]? = some none ∨ τ[j]? = none) → wipe τ us = τ := by
    intro us
    induction us with
    | nil => intro τ _; rfl
    | cons u us ih =>
      intro τ h
      show (wipe τ us).set u none = τ
      rw [ih τ fun j hj => h j (List.mem_cons_of_mem _ hj)]
      rcases h u (List.mem_cons_self ..) with z | z
      · obtain ⟨h1, h2⟩ := List.getElem?_eq_some_iff.mp z
        exact List.ext_getElem? fun k => by
          by_cases q : u = k
          · subst q; rw [List.getElem?_set_self h1, z]
          · rw [List.getElem?_set_ne q]
      · exact List.set_eq_of_length_le (List.getElem?_eq_none_iff.mp z)
  refine go vs _ fun j hj => ?_
  cases hx : (wipe σ vs)[j]? with
  | none => exact Or.inr rfl
  | some o =>
    cases o with
    | none => exact Or.inl rfl
    | some v => exact absurd hj (wipe_some hx).2
def soS (w : World) (zs : List Int) : SO := .ho fun a => SetO w a (setOf zs).1 (setOf zs).2
section
variable {c : Cn} {env : Sy} {os : List SO} {g g1 : TG} {tt tt1 : TT} {te ts : TE}
theorem so_set (w : World) (zs : List Int) (o' : SO) (os : List SO) : (os ++ [o']).set os.length (soS w zs) = os ++ [soS w zs] := by
  rw [List.set_append_right _ _ (Nat.le_refl _), Nat.sub_self]
  rfl
/-- one more int in the set -/
theorem Ok.addS {ad : Nat → Addr} {σ : L2.St} {H : Hp} {w : World} {zs : List Int} {z : Int} (ok : Ok c ad env (os ++ [soS w zs]) σ H) : Ok c ad env (os ++ [soS w (zs ++ [z])]) σ (upd H (ad os.length) (SetO w (ad os.length) (fun j => (setOf zs).1 j || decide (j = z)) (if (setOf zs).1 z = true then (setOf zs).2 else (setOf zs).2 + 1))) := by
  have m := ok.mut (k := os.length) (o := soS w zs) (o' := soS w (zs ++ [z])) (u' := SetO w (ad os.length) (fun j => (setOf zs).1 j || decide (j = z)) (if (setOf zs).1 z = true then (setOf zs).2 else (setOf zs).2 + 1)) (by simp) rfl rfl ⟨by
    rw [upd_same, setOf_snoc]; rfl, rfl⟩
  rw [so_set] at m
  exact m
theorem Ok.theS {ad : Nat → Addr} {σ : L2.St} {H : Hp} {w : World} {zs : List Int} (ok : Ok c ad env (os ++ [soS w zs]) σ H) : H (ad os.length) = some (SetO w (ad os.length) (setOf zs).1 (setOf zs).2) := (ok.obj os.length (soS w zs) (by simp) rfl).2.1
theorem ef_sc2 {α : Type} {w : World} {wi wi1 : TI} {n : Nat} {it : Nat → SV} {G : List SO → Prop} {xs : List α} {e : α → SV} {vs vs1 : List Nat} (f : α → List Int) (hw : EvW c env os wi n it G) (hn : n = xs.length) (hit : ∀ i x, xs[i]? = some x → it i = e x)
    (hG : ∀ o, G (os ++ [o])) (hz : ∀ zs : List Int, (∀ z ∈ zs, z ∈ xs.flatMap f) → (setOf zs).2 + 1 < scanBound)
    (hs : ∀ fr lo, Up c (c.w fr lo) → ∀ o x, x ∈ xs → ∃ env' js, (∀ j ∈ js, j ∈ vs) ∧ Tg (c.w fr lo) (wipeE env vs) (os ++ [o]) g (e x) env' js ∧ EvT (c.w fr lo) env' (os ++ [o]) tt true ∧
      ∃ n1 it1 G1, EvW (c.w fr lo) env' (os ++ [o]) wi1 n1 it1 G1 ∧ n1 = (f x).length ∧ (∀ i z, (f x)[i]? = some z → it1 i = .i (.int z)) ∧ (∀ o', G1 (os ++ [o'])) ∧
        ∀ fr1 lo1, ∀ o' z, z ∈ f x → ∃ env'' js1, (∀ j ∈ js1, j ∈ vs1) ∧ Tg (c.w fr1 lo1) (wipeE env' vs1) (os ++ [o']) g1 (.i (.int z)) env'' js1 ∧ EvT (c.w fr1 lo1) env'' (os ++ [o']) tt1 true ∧ EvX true (c.w fr1 lo1) env'' (os ++ [o']) te (.int z)) :
    EvF c env os (tSc2 w wi g tt wi1 g1 tt1 te vs vs1) (soS w (xs.flatMap f)) := fun ad σ H ok Q q => by
  subst hn
  refine hw ad σ H ok _ fun J H1 fr e1 ok1 up W D hD => ?_
  have h0 : (c.w fr os.length).H0 D = none ∨ (c.w fr os.length).M D := by
    by_cases hm : c.M D
    · exact Or.inr hm
    · refine Or.inl ?_
      show c.H0 D = none
      cases hz : c.H0 D with
      | none => rfl
      | some o => rw [ok1.ex D o hz hm] at hD; cases hD
  have ok2 := ok1.new (o := soS w []) hD (Ex.new (o := SetO w D (fun _ => false) 0) hD) h0 ⟨upd_same, rfl⟩
  have ok3 := ok2.pin (v := .ref D) (s := .r os.length) ⟨congrArg V.ref adN_same.symm, by simp⟩
  have ok4 := ok3.wipe vs
  have up2 := up_pin (v := .ref D) (s := .r os.length) ok2
  generalize hlo : (os ++ [soS w []]).length = lo at ok4 up2
  generalize hfr : ((V.ref D, SV.r os.length) :: fr) = fr' at ok4 up2
  have upc : Up c (c.w fr' lo) := fun a b d e f z => up _ _ _ _ _ (up2 _ _ _ _ _ z)
  have hlen : ∀ zs, (os ++ [soS w zs]).length = lo := fun zs => by rw [← hlo, List.length_append, List.length_append]; rfl
  let A : Nat → List Int := fun i => (xs.take i).flatMap f
  have inA : ∀ i, ∀ z ∈ A i, z ∈ xs.flatMap f := fun i z h => by
    obtain ⟨x, h1, h2⟩ := List.mem_flatMap.mp h
    exact List.mem_flatMap.mpr ⟨x, List.mem_of_mem_take h1, h2⟩
  refine ⟨fun i m H => m = xs.length - i ∧ i ≤ xs.length ∧ Ok (c.w fr' lo) (adN ad os.length D) (wipeE env vs) (os ++ [soS w (A i)]) (wipe σ vs) H ∧ Ex H1 H, ⟨xs.length, by simp, Nat.zero_le _, ok4, Ex.new hD⟩, ?_⟩
  rintro i m H' ⟨rfl, hi, ok', ex1⟩
  by_cases hlt : i < xs.length
  · have e0 : xs[i]? = some xs[i] := List.getElem?_eq_getElem hlt
    have et : A (i + 1) = A i ++ f xs[i] := by
      show (xs.take (i + 1)).flatMap f = _
      rw [List.take_succ, e0, List.flatMap_append]
      simp [A]
    refine .inr ⟨W.goes i _ _ _ _ _ hlt (up2 _ _ _ _ _ ok') (hG _), fun H'' => Ok (c.w fr' lo) (adN ad os.length D) (wipeE env vs) (os ++ [soS w (A (i + 1))]) (wipe σ vs) H'' ∧ Ex H1 H'', fun H'' p' => ⟨xs.length - (i + 1), by omega, rfl, hlt, p'.1, p'.2⟩, fun x H'' y => ?_⟩
    obtain ⟨e2, r⟩ := W.yields i _ _ _ _ _ x H'' hlt (up2 _ _ _ _ _ ok') (hG _) y
    rw [hit i xs[i] e0] at r
    have ok5 := ok'.ext e2
    obtain ⟨env', js, hjs, ht, hb, n1, it1, G1, hw1, hn1, hit1, hG1, hs1⟩ := hs fr' lo upc (soS w (A i)) xs[i] (List.getElem_mem hlt)
    refine ht _ _ H'' x ok5 r _ fun σ2 ok6 hwp => ⟨?_, hb _ σ2 H'' ok6 _ fun H3 e3 => ?_⟩
    · rw [hwp vs hjs]
      exact wipe_idem vs σ
    · rw [if_pos rfl]
      subst hn1
      have ok7 := ok6.ext e3
      refine hw1 _ σ2 H3 ok7 _ fun J1 H4 fr1 e4 ok8 up8 W1 => ?_
      have ok9 := ((ok5.ext e3).ext e4)
      refine ⟨fun j k H => k = (f xs[i]).length - j ∧ j ≤ (f xs[i]).length ∧ Ok (c.w fr1 (os ++ [soS w (A i)]).length) (adN ad os.length D) (wipeE env' vs1) (os ++ [soS w (A i ++ (f xs[i]).take j)]) (wipe σ2 vs1) H ∧ Ok (c.w fr' lo) (adN ad os.length D) (wipeE env vs) (os ++ [soS w (A i ++ (f xs[i]).take j)]) (wipe σ vs) H ∧ Ok (c.w fr1 (os ++ [soS w (A i)]).length) (adN ad os.length D) env' (os ++ [soS w (A i ++ (f xs[i]).take j)]) σ2 H ∧ Ex H1 H,
        ⟨(f xs[i]).length, by simp, Nat.zero_le _, by rw [List.take_zero, List.append_nil]; exact ok8.wipe vs1, by rw [List.take_zero, List.append_nil]; exact ok9, by rw [List.take_zero, List.append_nil]; exact ok8, ((ex1.trans e2).trans e3).trans e4⟩, ?_⟩
      rintro j k H5 ⟨rfl, hj, oki, oko, okf, ex5⟩
      by_cases hlt1 : j < (f xs[i]).length
      · have e0' : (f xs[i])[j]? = some (f xs[i])[j] := List.getElem?_eq_getElem hlt1
        have et' : (f xs[i]).take (j + 1) = (f xs[i]).take j ++ [(f xs[i])[j]] := by rw [List.take_succ, e0']; rfl
        refine .inr ⟨W1.goes j _ _ _ _ _ hlt1 okf (hG1 _), fun H6 => Ok (c.w fr1 (os ++ [soS w (A i)]).length) (adN ad os.length D) (wipeE env' vs1) (os ++ [soS w (A i ++ (f xs[i]).take (j + 1))]) (wipe σ2 vs1) H6 ∧ Ok (c.w fr' lo) (adN ad os.length D) (wipeE env vs) (os ++ [soS w (A i ++ (f xs[i]).take (j + 1))]) (wipe σ vs) H6 ∧ Ok (c.w fr1 (os ++ [soS w (A i)]).length) (adN ad os.length D) env' (os ++ [soS w (A i ++ (f xs[i]).take (j + 1))]) σ2 H6 ∧ Ex H1 H6,
          fun H6 p6 => ⟨(f xs[i]).length - (j + 1), by omega, rfl, hlt1, p6.1, p6.2.1, p6.2.2.1, p6.2.2.2⟩, fun x1 H6 y1 => ?_⟩
        obtain ⟨e6, r6⟩ := W1.yields j _ _ _ _ _ x1 H6 hlt1 okf (hG1 _) y1
        rw [hit1 j _ e0'] at r6
        have oki6 := oki.ext e6
        obtain ⟨env'', js1, hjs1, ht1, hb1, he1⟩ := hs1 fr1 (os ++ [soS w (A i)]).length (soS w (A i ++ (f xs[i]).take j)) (f xs[i])[j] (List.getElem_mem hlt1)
        refine ht1 _ _ H6 x1 oki6 r6 _ fun σ3 ok10 hwp1 => ⟨?_, hb1 _ σ3 H6 ok10 _ fun H7 e7 => ?_⟩
        · rw [hwp1 vs1 hjs1]
          exact wipe_idem vs1 σ2
        · rw [if_pos rfl]
          refine he1 _ σ3 H7 (ok10.ext e7) _ fun y H8 e8 ry => ?_
          have oki8 := (oki6.ext e7).ext e8
          have oko8 := ((oko.ext e6).ext e7).ext e8
          have okf8 := ((okf.ext e6).ext e7).ext e8
          have hS := oki8.theS
          have m1 := oki8.addS (z := (f xs[i])[j])
          have m2 := oko8.addS (z := (f xs[i])[j])
          have m3 := okf8.addS (z := (f xs[i])[j])
          rw [adN_same] at hS m1 m2 m3
          refine ⟨(f xs[i])[j], _, _, dn_int ry, hS, hz _ (fun z hz => ?_), ?_⟩
          · rcases List.mem_append.mp hz with h | h
            · exact inA i z h
            · exact List.mem_flatMap.mpr ⟨xs[i], List.getElem_mem hlt, List.mem_of_mem_take h⟩
          · rw [et', ← List.append_assoc]
            refine ⟨m1, m2, m3, fun a o h => ?_⟩
            rw [upd_ne (ne_of_none h hD)]
            exact ((ex5.trans e6).trans e7).trans e8 a o h
      · have q1 : j = (f xs[i]).length := by omega
        refine .inl ⟨by rw [q1]; exact W1.stops _ _ _ _ _ okf (hG1 _), ?_, ex5⟩
        rw [et]
        rw [q1, List.take_length] at oko
        exact oko
  · have q1 : i = xs.length := by omega
    refine .inl ⟨by rw [q1]; exact W.stops _ _ _ _ _ (up2 _ _ _ _ _ ok') (hG _), ?_⟩
    have ea : A i = xs.flatMap f := by show (xs.take i).flatMap f = _; rw [q1, List.take_length]
    have hS := ok'.theS
    rw [adN_same, ea] at hS
    exact q D H' (e1.free hD) (e1.trans ex1) ⟨hS, rfl⟩
/-- sorted of that -/
theorem ef_sortSet {w : World} {zs : List Int} (h : EvF c env os ts (soS w zs)) : EvF c env os (tCB (rSortSetA w) (tCons ts tNil)) (.lst (((asc zs).map PyData.int).map SV.i)) := fun ad σ H ok Q q =>
  h ad σ H ok _ fun p H2 hp e r => by
    refine ⟨p, _, _, rfl, r.1, fun ns l h1 h2 h3 hl => ?_⟩
    have en : ns = asc zs := asc_uniq h1 (asc_lt zs) fun j => by rw [h2 j, setOf_mem, decide_eq_true_iff, asc_mem]
    rw [en]
    exact q l _ (e.free hl) (e.trans (Ex.new hl)) ⟨_, upd_same, dn_paired (ints_dn _)⟩
end

theorem u1 {n m : Nat} (h : n + 64 < m) : n + 1 < m := by omega

theorem kZip {X : Cx} {K : PySem.W.Frag} {e e2 : Expr} {ta : TA} {p pos tpos : Pos} {elts : List Expr} {kk : Nat} (hg : Gl X "zip") (hm : X.mg "zip" = none) (ha : PA X [e, e2] ta) (hs : starEach [e, e2] X.env = (false, eval e X.env) :: starEach [e2] X.env := by rfl) (hpl : (backTo pos (starEach [e2] X.env)).any (·.1) = false := by rfl) (h : X.K = K := by rfl) : PI X (.Tuple elts kk tpos) (.Call (.Name "zip" p) [e, e2] [] pos) (iZip K ta) := by
  subst h
  exact pi_zip hg hm ha hs hpl
theorem soLt_dK {α β : Type} {ek : α → Key} {ev : β → PyData} {m : List (α × β)} {n : Nat} : SoLt n (.dK (m.map fun p => (ek p.1, SV.i (ev p.2)))) := fun p hp => by obtain ⟨q, _, rfl⟩ := List.mem_map.mp hp; exact True.intro
theorem soLt_dT {α β : Type} {ek : α → List Key} {ev : β → PyData} {m : List (α × β)} {n : Nat} : SoLt n (.dT (m.map fun p => (ek p.1, SV.i (ev p.2)))) := fun p hp => by obtain ⟨q, _, rfl⟩ := List.mem_map.mp hp; exact True.intro
theorem EvR.dataT {α β : Type} [DecidableEq α] {c : Cn} {env : Sy} {os : List SO} {te : TE} {ek : α → List Key} {ev : β → PyData} {m : List (α × β)} {k : Nat} (h : EvR c env os te k) (hk : os[k]? = some (.dT (m.map fun p => (ek p.1, SV.i (ev p.2))))) : EvX true c env os te (dTd ek ev m) := fun ad σ H ok Q q => h.2 ad σ H ok Q fun H2 e => by
  have ok2 := ok.ext e
  obtain ⟨_, ws, h1, h2⟩ := ok2.obj k _ hk rfl
  exact q _ H2 e (dT_dn h1 (fun z => ok2.nn k ⟨_, hk, rfl⟩ (Nw_true _ z)) (Paired.imp (pairT h2) fun _ _ z => ⟨z.1, z.2.sub fun a y => Or.inl (Nw_true a y)⟩))
/-- the same, once for all -/
theorem EvX.at0 {w : Bool} {c : Cn} {env : Sy} {os : List SO} {te : TE} {d d' : PyData} (h : EvX w c env os te d) (e : d = d') : EvX w c env os te d' := e ▸ h
theorem ew_range3 {c : Cn} {env : Sy} {os : List SO} {ta : TA} {i j s : Int} {n : Nat} (h : EvA true c env os ta [.int i, .int j, .int s]) (hr : RgC i j s n) : EvW c env os (iRng3 ta) n (fun k => .i (.int (i + (k : Int) * s))) (fun _ => True) := fun ad σ H ok R q =>
  h ad σ H ok _ fun vs H1 e r => by
    cases r with
    | cons a r =>
      cases r with
      | cons b r =>
        cases r with
        | cons d r =>
          cases r
          cases dn_int a
          cases dn_int b
          cases dn_int d
          refine ⟨i, j, s, n, rfl, hr, q _ H1 c.fr e (ok.ext e).pin0 (up_pin0 (ok.ext e)) ⟨fun k ad' env' os' σ' H' hi o _ => hi, fun ad' env' os' σ' H' o _ => Nat.le_refl _, fun k ad' env' os' σ' H' x H'' hi o _ y => ?_⟩⟩
          obtain ⟨rfl, rfl⟩ := y
          exact ⟨Ex.refl _, Dn.int _⟩
theorem rg_step {s : Int} (h1 : 1 ≤ s) (h2 : s ≤ 7) : ∃ n : Nat, RgC (-4) 15 s n ∧ ∀ k : Nat, k < n → -4 + (k : Int) * s < 15 := by
  have h : s = 1 ∨ s = 2 ∨ s = 3 ∨ s = 4 ∨ s = 5 ∨ s = 6 ∨ s = 7 := by omega
  rcases h with rfl | rfl | rfl | rfl | rfl | rfl | rfl
  · exact ⟨19, ⟨by decide, by decide, by decide, by decide⟩, fun k hk => by omega⟩
  · exact ⟨10, ⟨by decide, by decide, by decide, by decide⟩, fun k hk => by omega⟩
  · exact ⟨7, ⟨by decide, by decide, by decide, by decide⟩, fun k hk => by omega⟩
  · exact ⟨5, ⟨by decide, by decide, by decide, by decide⟩, fun k hk => by omega⟩
  · exact ⟨4, ⟨by decide, by decide, by decide, by decide⟩, fun k hk => by omega⟩
  · exact ⟨4, ⟨by decide, by decide, by decide, by decide⟩, fun k hk => by omega⟩
  · exact ⟨3, ⟨by decide, by decide, by decide, by decide⟩, fun k hk => by omega⟩
/-- *xs in a display -/
theorem kStar {X : Cx} {K : PySem.W.Frag} {e : Expr} {es : List Expr} {te : TE} {t : TA} {p : Pos} (he : PE X e te) (hr : PA X es t) (hs : starEach (.Starred e p :: es) X.env = (true, eval e X.env) :: starEach es X.env := by rfl) (h : X.K = K := by rfl) : PA X (.Starred e p :: es) (StX.tStar K te t) := by
  subst h
  exact StX.pa_star he hr hs
section
variable {c : Cn} {env : Sy} {os : List SO} {te ta tb : TE} {tr : TA}
theorem paired_app {α β : Type} {F : α → β → Prop} {l1 : List α} {m1 : List β} {l2 : List α} {m2 : List β} (p : Paired F l1 m1) (q : Paired F l2 m2) : Paired F (l1 ++ l2) (m1 ++ m2) := by
  induction p with
  | nil => exact q
  | cons r t ih => exact .cons r ih
theorem eas_star {ss us : List SV} (h : EvI c env os te ss) (hr : EvAS c env os tr us) : EvAS c env os (StX.tStar c.K te tr) (ss ++ us) := fun ad σ H ok Q q =>
  h ad σ H ok _ fun p vs H1 e1 s1 r1 => ⟨p, vs, rfl, Or.inr s1, hr ad σ H1 (ok.ext e1) _ fun ws H2 e2 r2 => q _ H2 (e1.trans e2) (paired_app (Paired.imp r1 fun _ _ z => z.ext e2) r2)⟩
/-- xs + ys, both lists of the store -/
theorem ef_catO {k j : Nat} {ss us : List SV} (ha : EvR c env os ta k) (hk : os[k]? = some (.lst ss)) (hb : EvR c env os tb j) (hj : os[j]? = some (.lst us)) (hl : ss.length + us.length ≤ 100000) : EvF c env os (tOp rCat ta tb) (.lst (ss ++ us)) := fun ad σ H ok Q q =>
  ha.2 ad σ H ok _ fun H1 e1 => hb.2 ad σ H1 (ok.ext e1) _ fun H2 e2 => by
    have ok2 := (ok.ext e1).ext e2
    obtain ⟨_, xs, s1, r1⟩ := ok2.obj k _ hk rfl
    obtain ⟨_, ys, s2, r2⟩ := ok2.obj j _ hj rfl
    refine ⟨ad k, ad j, xs, ys, rfl, rfl, s1, s2, ?_, fun p hp => q p _ ((e1.trans e2).free hp) ((e1.trans e2).trans (Ex.new hp)) ⟨xs ++ ys, upd_same, ?_⟩⟩
    · rw [Paired.length r1, Paired.length r2]; exact Nat.le_trans hl (by decide)
    · exact Paired.imp (paired_app r1 r2) fun v s z => by
        cases s with
        | i d => exact (Dn.add hp z).ext (Ex.new hp)
        | t o => obtain ⟨b, e1, e2⟩ := z; exact ⟨b, e1, Ex.new hp _ _ e2.1, e2.2⟩
        | ob C m => exact (ObOk.add hp z).ext (Ex.new hp)
        | r k => exact z
end
end DL

set_option Elab.async false
set_option linter.all false
set_option maxRecDepth 100000
set_option maxHeartbeats 2000000
/-! The data layer: an object of the store gets another place. -/
namespace DL
open PySem PySem.Spec PyProof.Rows L2
open Evl (Ex Ex.refl Ex.trans Ex.new)
theorem Lv_move {os : List SO} {o : SO} {k j : Nat} (h : Lv (os.set k .x ++ [o]) j) : (Lv os j ∧ j ≠ k ∧ j < os.length) ∨ j = os.length := by
  rcases Lv_app h with ⟨⟨u, e, l⟩, hj⟩ | ⟨e, _⟩
  · rw [List.length_set] at hj
    refine Or.inl ?_
    by_cases q : k = j
    · subst q
      rw [List.getElem?_set_self hj] at e
      cases e; cases l
    · rw [List.getElem?_set_ne q] at e
      exact ⟨⟨u, e, l⟩, fun z => q z.symm, hj⟩
  · rw [List.length_set] at e
    exact Or.inr e
theorem Ok.move {c : Cn} {ad : Nat → Addr} {env : Sy} {os : List SO} {σ : L2.St} {H : Hp} {i k : Nat} {o : SO} (ok : Ok c ad env os σ H) (hi : env[i]? = some (some (.r k))) (hk : os[k]? = some o) (lo : o.live = true) :
    Ok c (adN ad os.length (ad k)) (env.set i (some (.r os.length))) (os.set k .x ++ [o]) σ H := by
  have lk : Lv os k := ⟨o, hk, lo⟩
  have kn : k < os.length := (List.getElem?_eq_some_iff.mp hk).1
  have len : (os.set k .x ++ [o]).length = os.length + 1 := by rw [List.length_append, List.length_set]; rfl
  have hN : ∀ a, Nof c (adN ad os.length (ad k)) (os.set k .x ++ [o]) a → Nof c ad os a := fun a h => by
    rcases h with h | ⟨j, l, e⟩
    · exact Or.inl h
    · rcases Lv_move l with ⟨l', _, hj⟩ | rfl
      · rw [adN_ne (by omega)] at e
        exact Or.inr ⟨j, l', e⟩
      · rw [adN_same] at e
        exact Or.inr ⟨k, lk, e⟩
  have hv : ∀ v s, SvOk c.K (Nof c ad os) ad os.length H v s → SvOk c.K (Nof c (adN ad os.length (ad k)) (os.set k .x ++ [o])) (adN ad os.length (ad k)) (os.set k .x ++ [o]).length H v s := fun v s h => by
    rw [len]
    exact (h.sub hN).adN
  refine ⟨by rw [List.length_set]; exact ok.len, ok.ex, ok.n0, fun j s h => ?_, fun j u h l => ?_, fun a b la lb q => ?_, fun a la => ?_, fun p hp => ?_, by rw [len]; exact Nat.le_succ_of_le ok.low⟩
  · by_cases q : i = j
    · subst q
      rw [List.getElem?_set_self (List.getElem?_eq_some_iff.mp hi).1] at h
      cases h
      obtain ⟨v, h1, h2, _⟩ := ok.val i _ hi
      exact ⟨v, h1, by rw [adN_same]; exact h2, by rw [len]; exact Nat.lt_succ_self _⟩
    · rw [List.getElem?_set_ne q] at h
      obtain ⟨v, h1, h2⟩ := ok.val j s h
      exact ⟨v, h1, hv v s h2⟩
  · rcases Lv_move ⟨u, h, l⟩ with ⟨⟨u', e', l'⟩, hne, hj⟩ | rfl
    · rw [List.getElem?_append_left (by rw [List.length_set]; exact hj), List.getElem?_set_ne (fun z => hne z.symm)] at h
      rw [adN_ne (by omega)]
      obtain ⟨h1, h2⟩ := ok.obj j u h l
      exact ⟨h1, h2.map hv fun w q => q⟩
    · rw [List.getElem?_append_right (by rw [List.length_set]; exact Nat.le_refl _), List.length_set, Nat.sub_self] at h
      cases h
      rw [adN_same]
      obtain ⟨h1, h2⟩ := ok.obj k o hk lo
      exact ⟨h1, h2.map hv fun w q => q⟩
  · rcases Lv_move la with ⟨l1, n1, j1⟩ | rfl
    · rcases Lv_move lb with ⟨l2, n2, j2⟩ | rfl
      · rw [adN_ne (by omega), adN_ne (by omega)] at q
        exact ok.inj a b l1 l2 q
      · rw [adN_ne (by omega), adN_same] at q
        exact absurd (ok.inj a k l1 lk q) n1
    · rcases Lv_move lb with ⟨l2, n2, j2⟩ | rfl
      · rw [adN_same, adN_ne (by omega)] at q
        exact absurd (ok.inj b k l2 lk q.symm) n2
      · rfl
  · rcases Lv_move la with ⟨l1, n1, j1⟩ | rfl
    · rw [adN_ne (by omega)]
      exact ok.nn a l1
    · rw [adN_same]
      exact ok.nn k lk
  · have hf := ok.frm p hp
    obtain ⟨p1, p2⟩ := p
    cases p2 with
    | i d => exact Dn.sub hN hf
    | t u => exact hf
    | ob C m => exact ObOk.sub hN hf
    | r j => exact ⟨by rw [adN_ne (by have h1 := hf.2; have h2 := ok.low; omega)]; exact hf.1, hf.2⟩
theorem gs_move {c : Cn} {env : Sy} {os : List SO} {i k : Nat} {o : SO} {t : TS} {D : Ends} (hi : env[i]? = some (some (.r k))) (hk : os[k]? = some o) (lo : o.live = true) (h : Go c (env.set i (some (.r os.length))) (os.set k .x ++ [o]) t D) : Go c env os t D := fun ad σ H ok => h _ σ H (ok.move hi hk lo)
/-- as ef_callT, an argument being a list of the store -/
theorem ef_callTW {α β : Type} [DecidableEq α] {c : Cn} {env : Sy} {os : List SO} {ek : α → List Key} {ev : β → PyData} {m : List (α × β)} {R : List PyData → List (α × β) → Prop} {E : XK} {ta : TA} {ds : List PyData} (h : EvA true c env os ta ds) (hR : R ds m) (hn : ∀ b, noList (ev b) = true) : EvF c env os (tCall (spT c.K ek ev R) [] E ta) (.dT (m.map fun p => (ek p.1, SV.i (ev p.2)))) := fun ad σ H ok Q q =>
  h ad σ H ok _ fun vs H2 e a => by
    rw [List.append_nil]
    exact ⟨Nw true c ad os, ds, m, fun b z => (ok.ext e).nof (Nw_le b z), a, hR, fun p H' ws hp e' h1 h2 => q p H' (e.free hp) (e.trans e') ⟨ws, h1, pairTi (Paired.imp h2 fun x y z => ⟨z.1, Dn.goF (fun _ _ r => r) _ _ (hn _) z.2⟩)⟩⟩
end DL

set_option Elab.async false
set_option linter.all false
set_option maxRecDepth 100000
set_option maxHeartbeats 2000000
/-! The data layer: texts. -/
namespace DL
open PySem PySem.Spec PyProof.Rows L2
open Evl (Ex Ex.refl Ex.trans Ex.new)
/-- a text by its signs -/
abbrev sT (l : List Nat) : Str := ⟨l.toArray⟩
abbrev dT (l : List Nat) : PyData := .str (sT l)
theorem sT_len (l : List Nat) : (sT l).length = l.length := by simp [sT, Str.length]
theorem sT_cps (l : List Nat) : (sT l).cps.toList = l := by simp [sT]
theorem sT_app (a b : List Nat) : sT a ++ sT b = sT (a ++ b) := TL.ext_tl (by rw [TL.tl_append])
theorem sT_inj {a b : List Nat} (h : sT a = sT b) : a = b := by
  have := congrArg (fun x : Str => x.cps.toList) h
  simpa using this
theorem sT_beq (a b : List Nat) : ((sT a == sT b : Bool)) = decide (a = b) := by
  by_cases h : a = b
  · subst h; simp
  · rw [decide_eq_false h]
    refine Bool.eq_false_iff.mpr fun z => h (sT_inj (by simpa using z))
def rMulS : R2 := fun x y H Q => ∃ (z : Str) (n : Int), x = .str z ∧ y = .int n ∧ 0 ≤ n ∧ n ≤ 1000000 ∧ z.length * n.toNat ≤ sizeLine ∧ Q (.str (sT (List.replicate n.toNat z.cps.toList).flatten)) H
theorem rep_fold (z : Array Nat) (n : Nat) : (List.replicate n z).foldl (· ++ ·) #[] = (List.replicate n z.toList).flatten.toArray := by
  have go : ∀ (n : Nat) (a : Array Nat), (List.replicate n z).foldl (· ++ ·) a = a ++ (List.replicate n z.toList).flatten.toArray := by
    intro n
    induction n with
    | zero => intro a; simp
    | succ n ih =>
      intro a
      rw [List.replicate_succ, List.foldl_cons, ih, List.replicate_succ, List.flatten_cons]
      refine Array.toList_inj.mp ?_
      simp
  simpa using go n #[]
theorem op_mulS {X : Cx} : OpR X (binaryOp .Mult) rMulS := by
  intro pins s σ H x y v u Q I rx ry h
  obtain ⟨z, n, rfl, rfl, h0, h1, hz, q⟩ := h
  obtain ⟨t, rfl⟩ := rx
  obtain ⟨t', rfl⟩ := ry
  have e : sT (List.replicate n.toNat z.cps.toList).flatten = ⟨(List.replicate n.toNat z.cps).foldl (· ++ ·) #[]⟩ := by rw [rep_fold]
  rw [e] at q
  refine PySem.P.mul_str ?_ (fun h2 h3 => ?_) (fun h2 h3 => ?_) ?_
  · have h2 : ¬ n < -(2 ^ 63 : Int) := by omega
    have h3 : ¬ n ≥ 2 ^ 63 := by omega
    rw [decide_eq_false h2, decide_eq_false h3]; rfl
  · have h4 : (z.length : Int) ≤ (2 ^ 63 - 1) / n := by
      rw [Int.le_ediv_iff_mul_le (by omega)]
      have h5 : ((z.length * n.toNat : Nat) : Int) ≤ ((sizeLine : Nat) : Int) := Int.ofNat_le.mpr hz
      rw [Int.natCast_mul, Int.toNat_of_nonneg h0] at h5
      have h6 : ((sizeLine : Nat) : Int) = 2 ^ 24 := by decide
      omega
    omega
  · unfold Builtin.Str.tooLong
    exact decide_eq_false (by omega)
  · by_cases h2 : n < 1
    · rw [if_pos h2]
      have h3 : n = 0 := by omega
      subst h3
      exact ⟨by decide, .str _, H, I.tok _, ⟨_, rfl⟩, q⟩
    · rw [if_neg h2]
      by_cases h3 : (n == 1 || z.length == 0) = true
      · rw [if_pos h3]
        refine ⟨.str _, H, I, ⟨t, ?_⟩, q⟩
        rw [← e]
        congr 1
        rw [Bool.or_eq_true] at h3
        rcases h3 with h3 | h3
        · have h4 : n = 1 := by simpa using h3
          subst h4
          exact TL.ext_tl (by simp [TL.tl])
        · have h4 : z.cps.toList = [] := by
            have : z.length = 0 := by simpa using h3
            exact List.eq_nil_of_length_eq_zero (by simpa [Str.length] using this)
          refine TL.ext_tl ?_
          show z.cps.toList = _
          rw [h4]
          simp [TL.tl]
      · rw [if_neg h3]
        refine ⟨?_, .str _, H, I.tok _, ⟨_, rfl⟩, q⟩
        rw [← e, sT_len]
        rw [List.length_flatten]
        simp only [List.map_replicate, List.sum_replicate_nat, Array.length_toList]
        rw [Nat.mul_comm]
        exact hz
section
variable {w : Bool} {c : Cn} {env : Sy} {os : List SO} {te ta tb tl : TE} {d : PyData} {tt tu : TT}
theorem ex_txt {x : Str} {l : List Nat} (h : x = sT l) : EvX w c env os (tC (.str x)) (dT l) := by subst h; exact ex_str
theorem ex_catS {r : R2} {a b : List Nat} (hr : r = (fun x y H Q => ∃ i j, x = .str i ∧ y = .str j ∧ i.length + j.length ≤ sizeLine ∧ Q (.str (i ++ j)) H)) (ha : EvX true c env os ta (dT a)) (hb : EvX true c env os tb (dT b)) (hl : a.length + b.length ≤ 16777216) : EvX w c env os (tOp r ta tb) (dT (a ++ b)) := fun ad σ H ok Q q => by
  subst hr
  refine ha ad σ H ok _ fun v H1 e1 r1 => hb ad σ H1 (ok.ext e1) _ fun u H2 e2 r2 => ⟨sT a, sT b, dn_str r1, dn_str r2, by rw [sT_len, sT_len]; exact hl, ?_⟩
  rw [sT_app]
  exact q _ H2 (e1.trans e2) (.str _)
theorem ex_repS {a : List Nat} {n : Int} (ha : EvX true c env os ta (dT a)) (hb : EvX true c env os tb (.int n)) (h0 : 0 ≤ n) (h1 : n ≤ 1000000) (hl : a.length * n.toNat ≤ 16777216) : EvX w c env os (tOp rMulS ta tb) (dT (List.replicate n.toNat a).flatten) := fun ad σ H ok Q q => by
  refine ha ad σ H ok _ fun v H1 e1 r1 => hb ad σ H1 (ok.ext e1) _ fun u H2 e2 r2 => ⟨sT a, n, dn_str r1, dn_int r2, h0, h1, by rw [sT_len]; exact hl, ?_⟩
  rw [sT_cps]
  exact q _ H2 (e1.trans e2) (.str _)
theorem ex_ixS {a : List Nat} {i : Int} {x : Nat} (ha : EvX true c env os ta (dT a)) (hb : EvX true c env os tb (.int i)) (hl : a.length ≤ 16777216) (hd : atI a i = some x) : EvX w c env os (tOp rIxS ta tb) (dT [x]) := fun ad σ H ok Q q => by
  refine ha ad σ H ok _ fun v H1 e1 r1 => hb ad σ H1 (ok.ext e1) _ fun u H2 e2 r2 => ⟨sT a, i, x, dn_str r1, dn_int r2, by rw [sT_len]; exact hl, by rw [sT_cps]; exact hd, q _ H2 (e1.trans e2) (.str _)⟩
theorem ex_lenS {r : List V → Hp → VK → Prop} {a : List Nat} (hr : r = (fun xs H Q => ∃ z, xs = [.str z] ∧ z.length ≤ sizeLine ∧ Q (.int z.length) H)) (ha : EvX true c env os ta (dT a)) (hl : a.length ≤ 16777216) : EvX w c env os (tCB r (tCons ta tNil)) (.int (a.length : Int)) := fun ad σ H ok Q q => by
  subst hr
  refine ha ad σ H ok _ fun v H1 e1 r1 => ⟨sT a, by rw [dn_str r1], by rw [sT_len]; exact hl, ?_⟩
  rw [sT_len]
  exact q _ H1 e1 (.int _)
theorem ex_inS {r : R2} {x : Nat} {a : List Nat} (hr : r = (fun x y H Q => ∃ (c : Nat) (z : Str), x = .str ⟨#[c]⟩ ∧ y = .str z ∧ Q (.bl (decide (c ∈ z.cps.toList))) H)) (ha : EvX true c env os ta (dT [x])) (hb : EvX true c env os tb (dT a)) : EvX w c env os (tOp r ta tb) (.bool (decide (x ∈ a))) := fun ad σ H ok Q q => by
  subst hr
  refine ha ad σ H ok _ fun v H1 e1 r1 => hb ad σ H1 (ok.ext e1) _ fun u H2 e2 r2 => ⟨x, sT a, dn_str r1, dn_str r2, ?_⟩
  have e : (sT a).cps.toList = a := sT_cps a
  rw [show decide (x ∈ (sT a).cps.toList) = decide (x ∈ a) by simp]
  exact q _ H2 (e1.trans e2) (.bl _)
theorem ex_eqT {a b : List Nat} (ha : EvX true c env os ta (dT a)) (hb : EvX true c env os tb (dT b)) : EvX w c env os (tOp rEq ta tb) (.bool (decide (a = b))) := EvX.is (ex_eqS ha hb) (congrArg PyData.bool (sT_beq a b))
theorem ex_neT {a b : List Nat} (ha : EvX true c env os ta (dT a)) (hb : EvX true c env os tb (dT b)) : EvX w c env os (tOp rNe ta tb) (.bool (!decide (a = b))) := EvX.is (ex_neS ha hb) (congrArg (fun z => PyData.bool (!z)) (sT_beq a b))
theorem cutS_cutG (a : List Nat) (lo hi : Option Int) : L2.cutS (sT a) lo hi = sT (cutG a lo hi) := by
  unfold L2.cutS cutG
  rw [sT_cps, sT_len]
theorem ex_slS {tl th : TO} {a : List Nat} {lo hi : Option Int} (h : EvX true c env os te (dT a)) (h1 : EvO c env os tl lo) (h2 : EvO c env os th hi) (hl : a.length ≤ 16777216) : EvX w c env os (tSl rSlS te tl th) (dT (cutG a lo hi)) := fun ad σ H ok Q q =>
  h ad σ H ok _ fun v H1 e1 r1 => h1 ad σ H1 (ok.ext e1) _ fun H2 e2 => h2 ad σ H2 ((ok.ext e1).ext e2) _ fun H3 e3 => ⟨sT a, dn_str r1, by rw [sT_len]; exact hl, by
    rw [cutS_cutG]
    exact q _ H3 ((e1.trans e2).trans e3) (.str _)⟩
/-- a text is walked -/
theorem ew_str {a : List Nat} (h : EvX true c env os te (dT a)) : EvW c env os (iStr te) a.length (fun i => .i (dT [a.getD i 0])) (fun _ => True) := fun ad σ H ok R q =>
  h ad σ H ok _ fun v H1 e r => by
    refine ⟨sT a, dn_str r, q _ H1 c.fr e (ok.ext e).pin0 (up_pin0 (ok.ext e)) ⟨fun i ad' env' os' σ' H' hi o _ => ?_, fun ad' env' os' σ' H' o _ => ?_, fun i ad' env' os' σ' H' x H'' hi o _ y => ?_⟩⟩
    · show i < (sT a).cps.size
      simpa using hi
    · show (sT a).cps.size ≤ _
      simp
    · obtain ⟨rfl, x, hx, rfl⟩ := y
      refine ⟨Ex.refl _, ?_⟩
      have hx2 : a[i]? = some x := by simpa using hx
      rw [List.getD_eq_getElem?_getD, hx2]
      exact Dn.str _
end
theorem itS_at {a : List Nat} (i : Nat) (x : Nat) (h : a[i]? = some x) : (SV.i (dT [a.getD i 0])) = .i (dT [x]) := by rw [List.getD_eq_getElem?_getD, h]; rfl
/-- a for over a text -/
theorem gs_forS {c : Cn} {env : Sy} {os : List SO} {g : TG} {tb u : TS} {D : Ends} {te : TE} {xs : List Nat} (E : List Nat → Sy) (O : List Nat → List SO) (h : EvX true c env os te (dT xs))
    (h0 : ∀ c' : Cn, c'.lo = os.length → ∀ ad σ H, Ok c' ad env os σ H → Ok c' ad (E []) (O []) σ H)
    (hs : ∀ fr, Up c (c.w fr os.length) → ∀ pre x post, xs = pre ++ x :: post → ∃ env' js, Tg (c.w fr os.length) (E pre) (O pre) g (.i (dT [x])) env' js ∧ Go (c.w fr os.length) env' (O pre) tb { D with nx := OkE (c.w fr os.length) (E (pre ++ [x])) (O (pre ++ [x])), ct := OkE (c.w fr os.length) (E (pre ++ [x])) (O (pre ++ [x])), bk := u D })
    (hd : Go c (E xs) (O xs) u D) : Go c env os (tSeq (tFor (iStr te) g tb) u) D :=
  gs_forL (e := fun x => .i (dT [x])) E O (ew_str h) rfl itS_at h0 (fun _ _ _ => True.intro) hs hd
end DL
namespace DL
open PySem PySem.Spec PyProof.Rows L2
theorem pe_cal0 {X : Cx} {k j : Nat} {ps : List Str} {sp : Sp} {x : Str} {p pos : Pos} (h : Cal X.prog X.w X.K X.mg X.base k x ps sp) (hr : Room j X.A) (hj : k ≤ j) (hg : Gl X x) (hx : Passes CX0 X E0)
    (hdb : (x == ("__debug__" : Str)) = false := by decide) : PE X (.Call (.Name x p) [] [] pos) (tCall sp [] E0 tNil) := by
  obtain ⟨f, fd, G, b, g, kp⟩ := h
  exact pe_call0 G (hr.mono hj) hg g kp b .nil hx hdb
theorem gcs {mg : Str → Option Value} {x z : Str} (h : ∃ t, mg x = some (.str z t)) : ∃ u, mg x = some u ∧ RelV (.str z) u := by
  obtain ⟨t, h⟩ := h
  exact ⟨_, h, t, rfl⟩
theorem gci {mg : Str → Option Value} {x : Str} {z : Int} (h : ∃ t, mg x = some (.int z t)) : ∃ u, mg x = some u ∧ RelV (.int z) u := by
  obtain ⟨t, h⟩ := h
  exact ⟨_, h, t, rfl⟩
theorem atI_pos {α : Type} {l : List α} {i : Int} {d : α} (h0 : 0 ≤ i) (h1 : i < (l.length : Int)) : atI l i = some (l.getD i.toNat d) := by
  have e : i = ((i.toNat : Nat) : Int) := by omega
  rw [e]
  refine atI_nat ?_
  rw [Int.toNat_natCast, List.getD_eq_getElem?_getD, List.getElem?_eq_getElem (by omega)]
  rfl
end DL
namespace DL
theorem EvW.is {c : Cn} {env : Sy} {os : List SO} {wi : L2.TI} {n n' : Nat} {it : Nat → SV} {G : List SO → Prop} (h : EvW c env os wi n it G) (e : n = n') : EvW c env os wi n' it G := e ▸ h
end DL

set_option Elab.async false
set_option linter.all false
set_option maxRecDepth 100000
set_option maxHeartbeats 2000000
/-! The data layer: methods of texts, what is in a tuple. -/
namespace DL
open PySem PySem.Spec PyProof.Rows L2
open Evl (Ex Ex.refl Ex.trans Ex.new)
/-- the parts between the signs d -/
def splitC (d : Nat) : List Nat → List (List Nat)
  | [] => [[]]
  | c :: r => if c = d then [] :: splitC d r else match splitC d r with
    | [] => [[c]]
    | p :: ps => (c :: p) :: ps
theorem splitC_hit (d : Nat) (r : List Nat) : splitC d (d :: r) = [] :: splitC d r := by show (if d = d then _ else _) = _; rw [if_pos rfl]
theorem splitC_miss {d c : Nat} {r : List Nat} {p : List Nat} {ps : List (List Nat)} (h : ¬ c = d) (e : splitC d r = p :: ps) : splitC d (c :: r) = (c :: p) :: ps := by
  show (if c = d then _ else match splitC d r with | [] => [[c]] | p :: ps => (c :: p) :: ps) = _
  rw [if_neg h, e]
theorem splitC_ne (d : Nat) : ∀ l, splitC d l ≠ []
  | [] => by simp [splitC]
  | c :: r => by
    unfold splitC
    split
    · simp
    · split <;> simp
theorem splitC_ex (d : Nat) (l : List Nat) : ∃ p ps, splitC d l = p :: ps := by
  have hn := splitC_ne d l
  cases hs : splitC d l with
  | nil => exact absurd hs hn
  | cons p ps => exact ⟨p, ps, rfl⟩
theorem spl_splitC (d : Nat) : ∀ (l acc : List Nat) (p : List Nat) (ps : List (List Nat)), splitC d l = p :: ps → TL.spl [d] 0 acc l = (acc ++ p) :: ps
  | [], acc, p, ps, e => by
    rw [TL.spl_nil]
    injection e with e1 e2
    subst e1 e2
    simp
  | c :: r, acc, p, ps, e => by
    obtain ⟨p2, ps2, e2⟩ := splitC_ex d r
    by_cases h : c = d
    · subst h
      rw [TL.spl_hit (by simp [TL.pre])]
      rw [splitC_hit] at e
      injection e with e3 e4
      subst e3 e4
      have ih := spl_splitC c r [] p2 ps2 e2
      show acc :: TL.spl [c] 0 [] r = _
      rw [ih, e2]
      simp
    · rw [TL.spl_miss (by simp [TL.pre, h])]
      rw [splitC_miss h e2] at e
      injection e with e3 e4
      subst e3 e4
      rw [spl_splitC d r (acc ++ [c]) p2 ps2 e2]
      simp
theorem split_C (l : List Nat) (d : Nat) (hd : d < 256) : Txt.split (sT l) (sT [d]) = (splitC d l).map sT := by
  have h := TL.split_spl (sT l) (sT [d]) (by simp [TL.tl]) (TL.kind_ok (by simp; omega))
  refine TL.map_tl_inj ?_
  rw [h]
  show TL.spl [d] 0 [] l = _
  obtain ⟨p, ps, hs⟩ := splitC_ex d l
  rw [spl_splitC d l [] p ps hs, hs]
  rw [List.map_map]
  have e : (TL.tl ∘ sT) = fun x : List Nat => x := by funext x; simp [TL.tl]
  rw [e, List.map_id']
  rfl
theorem splitC_len (d : Nat) : ∀ l, (splitC d l).length = 1 + l.count d
  | [] => rfl
  | c :: r => by
    have ih := splitC_len d r
    obtain ⟨p2, ps2, e2⟩ := splitC_ex d r
    by_cases h : c = d
    · subst h
      rw [splitC_hit, List.length_cons, ih, List.count_cons_self]
      omega
    · rw [splitC_miss h e2, List.count_cons_of_ne h, ← ih, e2]
      rfl
theorem cnt_count (c : Nat) : ∀ l : List Nat, cnt c l = (l.count c : Int)
  | [] => rfl
  | n :: r => by
    rw [cnt_cons, cnt_count c r]
    by_cases h : n = c
    · subst h; rw [if_pos rfl, List.count_cons_self]; push_cast; omega
    · rw [if_neg h, List.count_cons_of_ne h]; omega
section
variable {w : Bool} {c : Cn} {env : Sy} {os : List SO} {te ta tb tl : TE} {d : PyData} {tt tu : TT}
theorem strs_dn {K : PySem.W.Frag} {N : Addr → Prop} {H : Hp} : ∀ ls : List (List Nat), DnAll K N H ((ls.map sT).map V.str) (ls.map dT)
  | [] => .nil
  | l :: ls => .cons (.str _) (strs_dn ls)
/-- text.split(sign) -/
theorem ef_split {r : V → List V → Hp → VK → Prop} {l : List Nat} {x : Nat} (hr : r = (fun x xs H Q => ∃ a b, x = .str a ∧ xs = [.str b] ∧ (b.length == 0) = false ∧ a.length + 2 ≤ sizeLine ∧ rNewStrs (Txt.split a b) H Q)) (ha : EvX true c env os ta (dT l)) (hb : EvX true c env os tb (dT [x])) (hx : x < 256) (hl : l.length ≤ 100000) :
    EvF c env os (tM1 r ta tb) (.lst (((splitC x l).map dT).map SV.i)) := fun ad σ H ok Q q => by
  subst hr
  refine ha ad σ H ok _ fun v H1 e1 r1 => ⟨⟨_, dn_str r1⟩, hb ad σ H1 (ok.ext e1) _ fun u H2 e2 r2 => ⟨sT l, sT [x], dn_str r1, by rw [dn_str r2], rfl, by rw [sT_len]; exact Nat.le_trans (Nat.add_le_add_right hl 2) (by decide), fun p hp => ?_⟩⟩
  rw [split_C l x hx]
  refine q p _ (e1.free (e2.free hp)) ((e1.trans e2).trans (Ex.new hp)) ⟨_, upd_same, ?_⟩
  exact dn_paired (strs_dn _)
/-- text.count(sign) -/
theorem ex_countS {r : V → List V → Hp → VK → Prop} {l : List Nat} {x : Nat} (hr : r = (fun x xs H Q => ∃ a b, x = .str a ∧ xs = [.str b] ∧ Q (.int (Txt.count a b)) H)) (ha : EvX true c env os ta (dT l)) (hb : EvX true c env os tb (dT [x])) : EvX w c env os (tM1 r ta tb) (.int (l.count x : Int)) := fun ad σ H ok Q q => by
  subst hr
  refine ha ad σ H ok _ fun v H1 e1 r1 => ⟨⟨_, dn_str r1⟩, hb ad σ H1 (ok.ext e1) _ fun u H2 e2 r2 => ⟨sT l, sT [x], dn_str r1, by rw [dn_str r2], ?_⟩⟩
  have e : Txt.count (sT l) (sT [x]) = (l.count x : Int) := by
    have h := count_is (sT l) x
    rw [← cnt_count]
    rw [show (sT [x]) = (⟨#[x]⟩ : Str) from rfl, h]
    show cnt x (sT l).cps.toList = _
    rw [sT_cps]
  rw [e]
  exact q _ H2 (e1.trans e2) (.int _)
end
theorem kInSeq {X : Cx} {K : PySem.W.Frag} (h : X.K = K := by rfl) : OpR X (compareOp .In) (rIn K false) := by subst h; exact op_in_seq
theorem kNotInSeq {X : Cx} {K : PySem.W.Frag} (h : X.K = K := by rfl) : OpR X (compareOp .NotIn) (rIn K true) := by subst h; exact op_notIn_seq
/-- texts as values -/
def txV (ls : List (List Nat)) : List V := ls.map fun l => V.str (sT l)
theorem txs_of {K : PySem.W.Frag} {N : Addr → Prop} {H : Hp} : ∀ {vs : List V} {ls : List (List Nat)}, DnAll K N H vs (ls.map dT) → vs = txV ls
  | _, [], h => by cases h; rfl
  | _, l :: ls, h => by
    cases h with
    | cons a b => rw [txs_of b, dn_str a]; rfl
theorem txV_flat (ls : List (List Nat)) : (txV ls).all flatV = true := by
  unfold txV
  rw [List.all_map]
  exact List.all_eq_true.mpr fun _ _ => rfl
theorem inV_txV (l : List Nat) (ls : List (List Nat)) : inV (.str (sT l)) (txV ls) = decide (l ∈ ls) := by
  unfold inV txV
  rw [List.any_map]
  by_cases h : l ∈ ls
  · rw [decide_eq_true h]
    exact List.any_eq_true.mpr ⟨l, h, by simp [eqV]⟩
  · rw [decide_eq_false h]
    refine Bool.eq_false_iff.mpr fun z => h ?_
    obtain ⟨y, hy, e⟩ := List.any_eq_true.mp z
    have e2 : sT y = sT l := by simpa [eqV] using e
    rw [← sT_inj e2]
    exact hy
section
variable {w : Bool} {c : Cn} {env : Sy} {os : List SO} {te ta tb tl : TE} {d : PyData} {tt tu : TT}
/-- text in (text, ..) -/
theorem ex_inTt {l : List Nat} {ls : List (List Nat)} (ha : EvX true c env os ta (dT l)) (hb : EvX true c env os tb (.tuple (ls.map dT))) : EvX w c env os (tOp (rIn c.K false) ta tb) (.bool (decide (l ∈ ls))) := fun ad σ H ok Q q =>
  ha ad σ H ok _ fun v H1 e1 r1 => hb ad σ H1 (ok.ext e1) _ fun u H2 e2 r2 => by
    obtain ⟨a, xs, rfl, hs, hx⟩ := dn_tup_ref r2
    rw [txs_of hx] at hs
    refine ⟨a, txV ls, rfl, Or.inr hs, by rw [dn_str r1]; rfl, txV_flat ls, ?_⟩
    rw [dn_str r1]
    show Q (.bl (inV (.str (sT l)) (txV ls))) H2
    rw [inV_txV]
    exact q _ H2 (e1.trans e2) (.bl _)
theorem ex_notinTt {l : List Nat} {ls : List (List Nat)} (ha : EvX true c env os ta (dT l)) (hb : EvX true c env os tb (.tuple (ls.map dT))) : EvX w c env os (tOp (rIn c.K true) ta tb) (.bool (!decide (l ∈ ls))) := fun ad σ H ok Q q =>
  ha ad σ H ok _ fun v H1 e1 r1 => hb ad σ H1 (ok.ext e1) _ fun u H2 e2 r2 => by
    obtain ⟨a, xs, rfl, hs, hx⟩ := dn_tup_ref r2
    rw [txs_of hx] at hs
    refine ⟨a, txV ls, rfl, Or.inr hs, by rw [dn_str r1]; rfl, txV_flat ls, ?_⟩
    rw [dn_str r1]
    show Q (.bl (!inV (.str (sT l)) (txV ls))) H2
    rw [inV_txV]
    exact q _ H2 (e1.trans e2) (.bl _)
theorem ex_notinS {r : R2} {x : Nat} {a : List Nat} (hr : r = (fun x y H Q => ∃ (c : Nat) (z : Str), x = .str ⟨#[c]⟩ ∧ y = .str z ∧ Q (.bl (!decide (c ∈ z.cps.toList))) H)) (ha : EvX true c env os ta (dT [x])) (hb : EvX true c env os tb (dT a)) : EvX w c env os (tOp r ta tb) (.bool (!decide (x ∈ a))) := fun ad σ H ok Q q => by
  subst hr
  refine ha ad σ H ok _ fun v H1 e1 r1 => hb ad σ H1 (ok.ext e1) _ fun u H2 e2 r2 => ⟨x, sT a, dn_str r1, dn_str r2, ?_⟩
  rw [show decide (x ∈ (sT a).cps.toList) = decide (x ∈ a) by simp]
  exact q _ H2 (e1.trans e2) (.bl _)
/-- text in [text, ..] -/
theorem ex_inLt {l : List Nat} {ls : List (List Nat)} (ha : EvX true c env os ta (dT l)) (hb : EvI c env os tb ((ls.map dT).map SV.i)) : EvX w c env os (tOp (rIn c.K false) ta tb) (.bool (decide (l ∈ ls))) := fun ad σ H ok Q q =>
  ha ad σ H ok _ fun v H1 e1 r1 => hb ad σ H1 (ok.ext e1) _ fun p vs H2 e2 hs hx => by
    rw [txs_of (paired_dn hx)] at hs
    refine ⟨p, txV ls, rfl, Or.inl hs, by rw [dn_str r1]; rfl, txV_flat ls, ?_⟩
    rw [dn_str r1]
    show Q (.bl (inV (.str (sT l)) (txV ls))) H2
    rw [inV_txV]
    exact q _ H2 (e1.trans e2) (.bl _)
end
theorem cutG_mid {α : Type} (xs : List α) (a b : Nat) (h : b ≤ xs.length) : cutG xs (some (a : Int)) (some (b : Int)) = (xs.drop a).take (b - a) := by
  unfold cutG
  rw [HT.sIx_nat, HT.sIx_nat, Nat.min_eq_left h]
  by_cases h2 : a ≤ xs.length
  · rw [Nat.min_eq_left h2]
  · rw [Nat.min_eq_right (by omega)]
    simp [List.drop_of_length_le (show xs.length ≤ a by omega)]
end DL
namespace DL
open PySem PySem.Spec PyProof.Rows L2
open Evl (Ex Ex.refl Ex.trans Ex.new)
theorem Paired.app {α β : Type} {F : α → β → Prop} : ∀ {l₁ m₁ : List α} {l₂ m₂ : List β}, Paired F l₁ l₂ → Paired F m₁ m₂ → Paired F (l₁ ++ m₁) (l₂ ++ m₂)
  | _, _, _, _, .nil, h => h
  | _, _, _, _, .cons r t, h => .cons r (Paired.app t h)
theorem kOrT {X : Cx} {K : PySem.W.Frag} {a b : Expr} {rest : List Expr} {ta tb : TE} {pos : Pos} (ha : PE X a ta) (hb : PE X (.BoolOp .Or (b :: rest) pos) tb) (hk : X.K = K := by rfl) : PE X (.BoolOp .Or (a :: b :: rest) pos) (tOrT K ta tb) := by subst hk; exact pe_orT ha hb
section
variable {w : Bool} {c : Cn} {env : Sy} {os : List SO} {te ta tb tl : TE} {d : PyData} {tt tu : TT} {u : TS} {D : Ends}
/-- xs or ys, new lists -/
theorem ef_orL {ss us : List SV} (ha : EvF c env os ta (.lst ss)) (hb : ss = [] → EvF c env os tb (.lst us)) : EvF c env os (tOrT c.K ta tb) (.lst (if ss = [] then us else ss)) := fun ad σ H ok Q q =>
  ha ad σ H ok _ fun p H1 hp e1 r => by
    obtain ⟨vs, hvs, pvs⟩ := r
    have hl : vs.length = ss.length := Paired.length pvs
    refine ⟨!vs.isEmpty, Or.inl ⟨vs, SqL.of hvs, rfl⟩, ?_⟩
    by_cases h : ss = []
    · have hv : vs = [] := List.eq_nil_of_length_eq_zero (by rw [hl, h]; rfl)
      rw [hv, if_neg (by decide)]
      refine hb h ad σ H1 (ok.ext e1) Q fun p2 H2 hp2 e2 r2 => q p2 H2 (e1.free hp2) (e1.trans e2) ?_
      rw [if_pos h]
      exact r2
    · have hv : (!vs.isEmpty) = true := by
        cases vs with
        | nil => exact absurd (List.eq_nil_of_length_eq_zero (by rw [← hl]; rfl)) h
        | cons a b => rfl
      rw [hv, if_pos rfl]
      refine q p H1 hp e1 ?_
      rw [if_neg h]
      exact ⟨vs, hvs, pvs⟩
/-- xs.extend(new list) -/
theorem gs_extF {k : Nat} {ss us : List SV} (hl : EvR c env os tl k) (hk : os[k]? = some (.lst ss)) (h : EvF c env os te (.lst us)) (hz : ss.length + us.length ≤ 100000) (kk : Go c env (os.set k (.lst (ss ++ us))) u D) : Go c env os (tSeq (tDrop (tBM c.K "list" rExtend tl (tCons te tNil))) u) D := fun ad σ H ok =>
  hl.2 ad σ H ok _ fun H1 e1 => by
    have ok1 := ok.ext e1
    obtain ⟨_, vs, hvs, pv⟩ := ok1.obj k _ hk rfl
    refine ⟨Or.inl ⟨rfl, vs, SqL.of hvs⟩, ?_⟩
    refine h ad σ H1 ok1 _ fun p H2 hp e2 r => ?_
    obtain ⟨ws, hws, pws⟩ := r
    have ok2 := ok1.ext e2
    have hv2 := e2 _ _ hvs
    refine ⟨ad k, p, vs, ws, rfl, rfl, hv2, hws, ?_, ?_⟩
    · rw [Paired.length pv, Paired.length pws]
      exact Nat.le_trans hz (by decide)
    refine kk ad σ _ (ok2.mut hk rfl rfl ⟨vs ++ ws, upd_same, ?_⟩)
    have hN : Nof c ad os (ad k) := Or.inr ⟨k, ⟨_, hk, rfl⟩, rfl⟩
    exact Paired.app (Paired.imp pv fun _ _ z => (z.ext e2).mut hv2 rfl hN) (Paired.imp pws fun _ _ z => (z.sub fun a y => Or.inl y).mut hv2 rfl hN)
end
theorem ixN_last (n : Nat) : ixN (n + 1) (-1) = some n := by
  unfold ixN
  have h : ¬ (0 : Int) ≤ -1 := by decide
  rw [if_neg h, if_pos (by omega)]
  have e : ((-1 : Int) + ((n + 1 : Nat) : Int)).toNat = n := by omega
  rw [e]
end DL
namespace DL
open PySem PySem.Spec PyProof.Rows L2
open Evl (Ex Ex.refl Ex.trans Ex.new)
/-- a for that may be left by return: P holds as long as it goes on -/
theorem gs_forP {c : Cn} {env : Sy} {os : List SO} {g : TG} {tb u : TS} {D : Ends} {wi : TI} {n : Nat} {it : Nat → SV} {G : List SO → Prop} (P : Nat → Prop) (E : Nat → Sy) (O : Nat → List SO) (hw : EvW c env os wi n it G)
    (h0 : ∀ c' : Cn, c'.lo = os.length → ∀ ad σ H, Ok c' ad env os σ H → Ok c' ad (E 0) (O 0) σ H) (p0 : P 0) (hG : ∀ i, i ≤ n → G (O i))
    (hs : ∀ fr, Up c (c.w fr os.length) → ∀ i, i < n → P i → ∃ env' js, Tg (c.w fr os.length) (E i) (O i) g (it i) env' js ∧ Go (c.w fr os.length) env' (O i) tb { D with nx := fun σ H => P (i + 1) ∧ OkE (c.w fr os.length) (E (i + 1)) (O (i + 1)) σ H, ct := fun σ H => P (i + 1) ∧ OkE (c.w fr os.length) (E (i + 1)) (O (i + 1)) σ H, bk := u D })
    (hd : P n → Go c (E n) (O n) u D) : Go c env os (tSeq (tFor wi g tb) u) D := fun ad σ H ok => by
  refine hw ad σ H ok _ fun J H1 fr e ok1 up W => ?_
  refine ⟨fun i m σ H => m = n - i ∧ i ≤ n ∧ P i ∧ OkE (c.w fr os.length) (E i) (O i) σ H, ⟨n, by simp, Nat.zero_le _, p0, ad, h0 _ rfl ad σ H1 ok1⟩, ?_⟩
  rintro i m σ H ⟨rfl, hi, hp, ad', ok'⟩
  by_cases hlt : i < n
  · refine .inr ⟨W.goes i _ _ _ _ _ hlt ok' (hG i hi), fun σ H => P (i + 1) ∧ OkE (c.w fr os.length) (E (i + 1)) (O (i + 1)) σ H, fun σ' H' p' => ⟨n - (i + 1), by omega, rfl, hlt, p'⟩, fun x H' y => ?_⟩
    obtain ⟨e2, r⟩ := W.yields i _ _ _ _ _ x H' hlt ok' (hG i hi) y
    obtain ⟨env', js, ht, hb⟩ := hs fr up i hlt hp
    exact ht ad' σ H' x (ok'.ext e2) r _ fun σ2 ok2 _ => hb ad' σ2 H' ok2
  · have q : i = n := by omega
    subst q
    exact .inl ⟨W.stops _ _ _ _ _ ok' (hG i hi), hd hp ad' σ H (up _ _ _ _ _ ok')⟩
theorem gs_nxP {c : Cn} {env : Sy} {os : List SO} {D : Ends} {P : Prop} {X Y : L2.St → Hp → Prop} (hp : P) (h : Go c env os tNext { D with nx := X, ct := Y }) : Go c env os tNext { D with nx := fun σ H => P ∧ X σ H, ct := fun σ H => P ∧ Y σ H } := fun ad σ H ok => ⟨hp, h ad σ H ok⟩
end DL

set_option Elab.async false
set_option linter.all false
set_option maxRecDepth 100000
set_option maxHeartbeats 2000000
/-! The data layer: strip, partition, find of texts. -/
namespace DL
open PySem PySem.Spec PyProof.Rows L2
open Evl (Ex Ex.refl Ex.trans Ex.new)
/-- the part ahead of the first d -/
def upC (d : Nat) (l : List Nat) : List Nat := l.takeWhile fun c => !decide (c = d)
theorem upC_cons (d c : Nat) (l : List Nat) : upC d (c :: l) = if c = d then [] else c :: upC d l := by
  unfold upC
  rw [List.takeWhile_cons]
  by_cases h : c = d <;> simp [h]
theorem upC_none (d : Nat) : ∀ l : List Nat, d ∉ l → upC d l = l
  | [], _ => rfl
  | c :: l, h => by
    rw [upC_cons, if_neg (fun z => h (by rw [z]; simp)), upC_none d l (fun z => h (List.mem_cons_of_mem _ z))]
theorem upC_pre (d : Nat) : ∀ (l r : List Nat), d ∉ l → upC d (l ++ d :: r) = l
  | [], r, _ => by rw [List.nil_append, upC_cons, if_pos rfl]
  | c :: l, r, h => by
    rw [List.cons_append, upC_cons, if_neg (fun z => h (by rw [z]; simp)), upC_pre d l r (fun z => h (List.mem_cons_of_mem _ z))]
theorem upC_le (d : Nat) (l : List Nat) : (upC d l).length ≤ l.length := (List.takeWhile_sublist _).length_le
theorem par_upC (d : Nat) : ∀ (l acc : List Nat), (∃ b, TL.par [d] acc l = some (acc ++ upC d l, b)) ∨ (TL.par [d] acc l = none ∧ d ∉ l)
  | [], acc => Or.inr ⟨rfl, by simp⟩
  | c :: r, acc => by
    by_cases h : c = d
    · subst h
      refine Or.inl ⟨(c :: r).drop ([c] : List Nat).length, ?_⟩
      rw [TL.par_hit (by simp [TL.pre]), upC_cons, if_pos rfl, List.append_nil]
    · rw [TL.par_miss (by simp [TL.pre, h]), upC_cons, if_neg h]
      rcases par_upC d r (acc ++ [c]) with ⟨b, e⟩ | ⟨e, n⟩
      · exact Or.inl ⟨b, by rw [e]; simp⟩
      · exact Or.inr ⟨e, fun z => (List.mem_cons.mp z).elim (fun y => h y.symm) n⟩
theorem partition_up (l : List Nat) (d : Nat) : ∃ b c : Str, Txt.partition (sT l) (sT [d]) = (sT (upC d l), b, c) := by
  rw [TL.partition_par (sT l) (sT [d]) (by simp [TL.tl])]
  show ∃ b c, (match TL.par [d] [] l with | some (a, b) => ((⟨a.toArray⟩ : Str), sT [d], (⟨b.toArray⟩ : Str)) | none => (sT l, Str.empty, Str.empty)) = (sT (upC d l), b, c)
  rcases par_upC d l [] with ⟨b, e⟩ | ⟨e, n⟩
  · rw [e]; exact ⟨_, _, rfl⟩
  · rw [e, upC_none d l n]; exact ⟨_, _, rfl⟩
/-- strip(sign) -/
def stripL (d : Nat) (l : List Nat) : List Nat := (Txt.stripChars (sT l) (sT [d])).cps.toList
theorem stripL_sT (d : Nat) (l : List Nat) : Txt.stripChars (sT l) (sT [d]) = sT (stripL d l) := by unfold stripL; exact TL.ext_tl rfl
theorem stripL_nil (d : Nat) (l : List Nat) : stripL d l = [] ↔ ∀ c ∈ l, c = d := by
  unfold stripL Txt.stripChars
  rw [stripBy_eq]
  generalize hg : (sT [d]).cps.contains = g
  have gd : ∀ c, g c = decide (c = d) := fun c => by
    rw [← hg]
    by_cases h : c = d
    · subst h; simp
    · simp [h]
  have hx : (sT l).length = l.length := sT_len l
  have hgl : ∀ k, (sT l).cps.getD k 0 = l.getD k 0 := fun k => by rw [← getD_list, sT_cps]
  obtain ⟨h1, h2, h3⟩ := lo_facts g (sT l)
  obtain ⟨k1, k2, k3, k4⟩ := hi_facts g (sT l) _ h1
  generalize stripLo g true (sT l) = lo at *
  generalize stripHi g true (sT l) lo = hi at *
  have es : (Builtin.Str.strSub (sT l) lo hi).cps.toList = (l.drop lo).take (hi - lo) := by
    have := TL.tl_strSub (sT l) lo hi
    rw [show TL.tl (sT l) = l from sT_cps l] at this
    exact this
  rw [es]
  constructor
  · intro z c hc
    have hlen : hi - lo = 0 ∨ l.length ≤ lo := by
      have := congrArg List.length z
      rw [List.length_take, List.length_drop] at this
      simp at this
      omega
    obtain ⟨i, hi', e⟩ := List.mem_iff_getElem.mp hc
    have eg : l.getD i 0 = c := by rw [List.getD_eq_getElem?_getD, List.getElem?_eq_getElem hi', e]; rfl
    have key : g ((sT l).cps.getD i 0) = true := by
      by_cases hlo : i < lo
      · exact h2 i hlo
      · exact k3 i (by omega) (by omega)
    rw [hgl, eg, gd] at key
    simpa using key
  · intro z
    have all : ∀ k, k < l.length → g ((sT l).cps.getD k 0) = true := fun k hk => by
      rw [hgl, gd]
      refine decide_eq_true (z _ ?_)
      rw [List.getD_eq_getElem?_getD, List.getElem?_eq_getElem hk]
      exact List.getElem_mem hk
    have hlo : lo = l.length := by
      rcases h3 with y | y
      · omega
      · by_cases hlt : lo < l.length
        · rw [all lo hlt] at y; cases y
        · omega
    rw [hlo]
    simp
/-- find(sign, at) -/
theorem find3_up (l : List Nat) (d a : Nat) (h : a ≤ l.length) : Txt.find3 (sT l) ⟨#[d]⟩ (a : Int) = if a + (upC d (l.drop a)).length < l.length then ((a + (upC d (l.drop a)).length : Nat) : Int) else -1 := by
  have hx : (sT l).length = l.length := sT_len l
  have hgl : ∀ k, (sT l).cps.getD k 0 = l.getD k 0 := fun k => by rw [← getD_list, sT_cps]
  have hf : fromIndex (sT l).length (a : Int) = a := by unfold fromIndex; rw [if_neg (by omega)]; omega
  have spec := StrLaws.find3_spec (sT l) d (a : Int)
  rw [hf, hx] at spec
  rcases spec with ⟨e, hn⟩ | ⟨k, e, k1, k2, k3, hn⟩
  · have hnm : d ∉ l.drop a := fun z => by
      obtain ⟨i, hi, e2⟩ := List.mem_iff_getElem.mp z
      rw [List.length_drop] at hi
      refine hn (a + i) (by omega) (by omega) ?_
      rw [hgl, List.getD_eq_getElem?_getD, ← List.getElem?_drop, List.getElem?_eq_getElem (by rw [List.length_drop]; exact hi), e2]
      rfl
    rw [e, upC_none d _ hnm, List.length_drop, if_neg (by omega)]
  · rw [hgl] at k3
    have hk : l[k]? = some d := by
      rw [List.getD_eq_getElem?_getD, List.getElem?_eq_getElem k2] at k3
      rw [List.getElem?_eq_getElem k2]
      exact congrArg some k3
    have hpre : d ∉ (l.drop a).take (k - a) := fun z => by
      obtain ⟨i, hi, e2⟩ := List.mem_iff_getElem.mp z
      have hi2 : i < k - a := by rw [List.length_take] at hi; omega
      have e3 : ((l.drop a).take (k - a))[i]? = some d := by rw [List.getElem?_eq_getElem hi, e2]
      rw [List.getElem?_take_of_lt hi2, List.getElem?_drop] at e3
      refine hn (a + i) (by omega) (by omega) ?_
      rw [hgl, List.getD_eq_getElem?_getD, e3]
      rfl
    have hsp : l.drop a = (l.drop a).take (k - a) ++ d :: l.drop (k + 1) := by
      conv => lhs; rw [← List.take_append_drop (k - a) (l.drop a)]
      rw [List.drop_drop, show a + (k - a) = k by omega, List.drop_eq_getElem_cons k2]
      congr 2
      rw [List.getElem?_eq_getElem k2] at hk
      injection hk
    have hu : upC d (l.drop a) = (l.drop a).take (k - a) := by
      conv => lhs; rw [hsp]
      exact upC_pre d _ _ hpre
    have hlen : ((l.drop a).take (k - a)).length = k - a := by rw [List.length_take, List.length_drop]; omega
    rw [e, hu, hlen, show a + (k - a) = k by omega, if_pos k2]
section
variable {w : Bool} {c : Cn} {env : Sy} {os : List SO} {te ta tb tl : TE} {d : PyData} {tt tu : TT}
/-- text.partition(sign)[0] -/
theorem ex_part0 {r : V → List V → Hp → VK → Prop} {l : List Nat} {x : Nat} (hr : r = (fun x xs H Q => ∃ a b, x = .str a ∧ xs = [.str b] ∧ (b.length == 0) = false ∧ a.length ≤ sizeLine ∧ ∀ p, H p = none → Q (.ref p) (upd H p (.tup [.str (Txt.partition a b).1, .str (Txt.partition a b).2.1, .str (Txt.partition a b).2.2])))) (ha : EvX true c env os ta (dT l)) (hb : EvX true c env os tb (dT [x])) (hl : l.length ≤ 100000) :
    EvX w c env os (tOp (rIxT c.K) (tM1 r ta tb) (tC (.int 0))) (dT (upC x l)) := fun ad σ H ok Q q => by
  subst hr
  refine ha ad σ H ok _ fun v H1 e1 r1 => ⟨⟨_, dn_str r1⟩, hb ad σ H1 (ok.ext e1) _ fun u H2 e2 r2 => ⟨sT l, sT [x], dn_str r1, by rw [dn_str r2], rfl, by rw [sT_len]; exact Nat.le_trans hl (by decide), fun p hp => ?_⟩⟩
  obtain ⟨b, cc, e⟩ := partition_up l x
  rw [e]
  refine ⟨p, _, 0, .str (sT (upC x l)), rfl, rfl, Or.inl (Or.inl upd_same), rfl, ?_⟩
  exact q _ _ ((e1.trans e2).trans (Ex.new hp)) (.str _)
/-- text.strip(sign) -/
theorem ex_strip {r : V → List V → Hp → VK → Prop} {l : List Nat} {x : Nat} (hr : r = (fun x xs H Q => ∃ a b, x = .str a ∧ xs = [.str b] ∧ a.length ≤ sizeLine ∧ Q (.str (Txt.stripChars a b)) H)) (ha : EvX true c env os ta (dT l)) (hb : EvX true c env os tb (dT [x])) (hl : l.length ≤ 100000) : EvX w c env os (tM1 r ta tb) (dT (stripL x l)) := fun ad σ H ok Q q => by
  subst hr
  refine ha ad σ H ok _ fun v H1 e1 r1 => ⟨⟨_, dn_str r1⟩, hb ad σ H1 (ok.ext e1) _ fun u H2 e2 r2 => ⟨sT l, sT [x], dn_str r1, by rw [dn_str r2], by rw [sT_len]; exact Nat.le_trans hl (by decide), ?_⟩⟩
  rw [stripL_sT]
  exact q _ H2 (e1.trans e2) (.str _)
/-- text.find(sign, at) -/
theorem ex_find3 {r : V → List V → Hp → VK → Prop} {l : List Nat} {x a : Nat} (hr : r = (fun x xs H Q => ∃ (a b : Str) (i : Int), x = .str a ∧ xs = [.str b, .int i] ∧ Q (.int (Txt.find3 a b i)) H)) (ha : EvX true c env os ta (dT l)) (hb : EvX true c env os tb (dT [x])) (hi : EvX true c env os te (.int (a : Int))) (hl : a ≤ l.length) : EvX w c env os (tBM c.K "str" r ta (tCons tb (tCons te tNil))) (.int (if a + (upC x (l.drop a)).length < l.length then ((a + (upC x (l.drop a)).length : Nat) : Int) else -1)) := fun ad σ H ok Q q => by
  subst hr
  refine ha ad σ H ok _ fun v H1 e1 r1 => ⟨by rw [dn_str r1]; rfl, hb ad σ H1 (ok.ext e1) _ fun u H2 e2 r2 => hi ad σ H2 ((ok.ext e1).ext e2) _ fun z H3 e3 r3 => ⟨sT l, sT [x], (a : Int), dn_str r1, by rw [dn_str r2, dn_int r3], ?_⟩⟩
  rw [show (sT [x]) = (⟨#[x]⟩ : Str) from rfl, find3_up l x a hl]
  exact q _ H3 ((e1.trans e2).trans e3) (.int _)
end
end DL

set_option Elab.async false
set_option linter.all false
set_option maxRecDepth 100000
set_option maxHeartbeats 2000000
/-! The data layer: keywords, written dicts, divmod. -/
namespace DL
open PySem PySem.Spec PyProof.Rows L2
open Evl (Ex Ex.refl Ex.trans Ex.new)
/-! ### defs with keyword-only parameters -/
abbrev FnQ (K : PySem.W.Frag) (x : Str) (st : Stmt) (kws : List (Str × V)) (f : Addr) (fd : FuncData) : Prop := FunD K x x (defArgs st) (defBody st) (defScope st) [] kws f fd
/-- a form of call: how many values by place, the names, what fills up -/
abbrev CForm := Nat × List Str × List (Str × V)
def FormOk (K : PySem.W.Frag) (fd : FuncData) (ps : List Str) (F : CForm) : Prop := ∃ ds, KBn K fd ps F.1 F.2.1 (fun us ws => us ++ (ws ++ ds)) (fun vs zs => vs ++ (zs ++ F.2.2.map (·.2)))
def CalQ (P : Program) (w : World) (K : PySem.W.Frag) (mg : Str → Option Value) (base : Heap) (k : Nat) (x : Str) (ps : List Str) (sp : Sp) (fs : List CForm) : Prop :=
  ∃ f fd, FnOk P w K mg base CX0 k f fd ps sp ∧ (∀ F ∈ fs, FormOk K fd ps F) ∧ mg x = some (.ref f) ∧ PySem.W.keepIn K (.ref f) = true
section
variable {P : Program} {w : World} {K : PySem.W.Frag} {mg : Str → Option Value} {base : Heap}
theorem form_mk {x qual : Str} {params : Arguments} {body : List Stmt} {scope : Scope} {kws : List (Str × V)} {f : Addr} {fd : FuncData} {ps : List Str} (F : FunD K x qual params body scope [] kws f fd) (n : Nat) (ks : List Str) (ms : List (Str × V)) (hk : kws ≠ []) (hms : ∀ q ∈ ms, q ∈ kws)
    (h : ∀ (D : Addr) (doc pm : Value) (an : Option Addr) (cdv ct : Value) (us mv ws : List Value), us.length = n → mv.length = ms.length → ws.length = ks.length →
      KwChain D ((ms.map (·.1)).zip mv) (bindArgs (PySem.W.fnOf x qual params body scope .none (.ref D) doc pm an cdv ct) ⟨us, ks.zip ws⟩) (ps.zip (us ++ (ws ++ mv)))) : FormOk K fd ps (n, ks, ms) := by
  obtain ⟨oc, od, dV, kV, doc, pm, an, cdv, ct, osl, rfl, lk, hcd, hD, hK⟩ := F.ex
  rcases hD with ⟨_, rfl⟩ | ⟨e, _⟩
  · rcases hK with e | ⟨D, rfl, hq⟩
    · exact absurd e hk
    · obtain ⟨mv, hl, rk, hks⟩ := kwd_vals (ms := ms) fun q hm => hq q (hms q hm)
      exact ⟨mv, ⟨fun s us ws X l1 l2 => BindsTo.of_looks fun M => KwChain.looks X hks (h D doc pm an cdv ct us mv ws l1 hl l2), fun r1 r2 => r1.append (r2.append rk)⟩⟩
  · exact absurd rfl e
theorem cal_mkQ {x : Str} {st : Stmt} {f : Addr} {fd : FuncData} {N ps : List Str} {k : Nat} {sp : Sp} {kws : List (Str × V)} {fs : List CForm} (F : FnQ K x st kws f fd) (S : FnScope N ps (defScope st)) (g : mg x = some (.ref f)) (len : ∀ vs H Q E, sp vs H Q E → vs.length = ps.length)
    (hf : ∀ F ∈ fs, FormOk K fd ps F)
    (hbody : ∀ (cdv : Value) (A : Around) (outer : List Env) (s : Shared) (H : Hp) (vs : List V) (Q : VK) (E : XK), Room k (A.deeper (envOfC x (defScope st) s.heap.objs.size f cdv)) → sp vs H Q E →
      ∃ t, PSs (cxOf CX0 P w K mg base N x (defScope st) f cdv A outer s H E).nox (defBody st) t ∧ t (De Q) (L2.start N vs) H) : CalQ P w K mg base (k + 1) x ps sp fs :=
  ⟨f, fd, F.ok S len fun cdv A outer s H vs Q E hr h => let ⟨t, a, b⟩ := hbody cdv A outer s H vs Q E hr h; ⟨t, a.nox, b⟩, hf, g, F.kp⟩
end
theorem pe_calQ {X : Cx} {k j : Nat} {ps : List Str} {sp : Sp} {x : Str} {p pos : Pos} {e : Expr} {es : List Expr} {kws : List Keyword} {t tk : TA} {fs : List CForm} {n : Nat} {ks : List Str} {ms : List (Str × V)} (h : CalQ X.prog X.w X.K X.mg X.base k x ps sp fs) (hF : (n, ks, ms) ∈ fs) (hr : Room j X.A) (hj : k ≤ j) (hg : Gl X x) (hx : Passes CX0 X E0)
    (ha : PA X (e :: es) t) (hkw : PK X kws tk) (hall : (backToKw pos (keywordEach kws X.env)).all (·.1.isSome) = true := by rfl) (hks : (backToKw pos (keywordEach kws X.env)).filterMap (·.1) = ks := by rfl)
    (hdb : (x == ("__debug__" : Str)) = false := by decide) (he : starEach (e :: es) X.env = (false, eval e X.env) :: starEach es X.env := by rfl)
    (hpl : ((backTo pos (starEach (e :: es) X.env)).any (·.1) || (backToKw pos (keywordEach kws X.env)).any (·.1.isNone)) = false := by rfl) :
    PE X (.Call (.Name x p) (e :: es) kws pos) (tCallN n ks.length sp (fun vs zs => vs ++ (zs ++ ms.map (·.2))) E0 t tk) := by
  obtain ⟨f, fd, G, b, g, kp⟩ := h
  obtain ⟨ds, hb⟩ := b _ hF
  exact pe_callN G (hr.mono hj) hg g kp hb hx ha hkw hall hks hdb he hpl
section
variable {w : Bool} {c : Cn} {env : Sy} {os : List SO} {te ta tb tl : TE} {d : PyData} {tt tu : TT} {t tk : TA}
theorem ex_callQ {R : List PyData → PyData → Prop} {E : XK} {n m : Nat} {dv : List V} {ds es dd : List PyData} (h : EvA w c env os t ds) (hk : EvA w c env os tk es) (hd : ∀ N H, DnAll c.K N H dv dd) (l1 : ds.length = n) (l2 : es.length = m) (hR : R (ds ++ (es ++ dd)) d) : EvX w c env os (tCallN n m (spD c.K R) (fun vs zs => vs ++ (zs ++ dv)) E t tk) d := fun ad σ H ok Q q =>
  h ad σ H ok _ fun vs H1 e1 a1 => hk ad σ H1 (ok.ext e1) _ fun zs H2 e2 a2 => by
    refine ⟨a1.length.trans l1, a2.length.trans l2, Nw w c ad os, _, d, fun b z => ((ok.ext e1).ext e2).nof (Nw_le b z), (a1.ext e2).append (a2.append (hd _ _)), hR, fun v H' e' r => q v H' ((e1.trans e2).trans e') r⟩
theorem ef_callQ {R : List PyData → List PyData → Prop} {E : XK} {n m : Nat} {dv : List V} {ds es dd rs : List PyData} (h : EvA false c env os t ds) (hk : EvA false c env os tk es) (hd : ∀ N H, DnAll c.K N H dv dd) (l1 : ds.length = n) (l2 : es.length = m) (hR : R (ds ++ (es ++ dd)) rs) : EvF c env os (tCallN n m (spF c.K R) (fun vs zs => vs ++ (zs ++ dv)) E t tk) (.lst (rs.map SV.i)) := fun ad σ H ok Q q =>
  h ad σ H ok _ fun vs H1 e1 a1 => hk ad σ H1 (ok.ext e1) _ fun zs H2 e2 a2 => by
    rw [Nw_false] at a1 a2
    refine ⟨a1.length.trans l1, a2.length.trans l2, Nof c ad os, _, rs, fun b z => ((ok.ext e1).ext e2).nof z, (a1.ext e2).append (a2.append (hd _ _)), hR, fun p H' ws hp e' h1 h2 => q p H' (e1.free (e2.free hp)) ((e1.trans e2).trans e') ⟨ws, h1, dn_paired h2⟩⟩
/-! ### written dicts -/
def EvP (c : Cn) (env : Sy) (os : List SO) (trs : List (TE × TE)) (kvs : List (Key × PyData)) : Prop := ∀ ad σ H, Ok c ad env os σ H → ∀ Q : List (V × V) → Hp → Prop,
  (∀ (vs : List (Key × V)) H2, Ex H H2 → Paired (fun (x : Key × V) (y : Key × PyData) => x.1 = y.1 ∧ Dn c.K (fun _ => True) H2 x.2 y.2) vs kvs → Q (vs.map fun kv => (kV kv.1, kv.2)) H2) → tPairs trs σ H Q
theorem ep_nil : EvP c env os [] [] := fun ad σ H ok Q q => q [] H (Ex.refl H) .nil
theorem ep_cons {trs : List (TE × TE)} {kvs : List (Key × PyData)} {kk : Key} (hk : EvX true c env os ta (kdat kk)) (hv : EvX true c env os tb d) (hd : noList d = true) (hr : EvP c env os trs kvs) : EvP c env os ((ta, tb) :: trs) ((kk, d) :: kvs) := fun ad σ H ok Q q =>
  hk ad σ H ok _ fun v H1 e1 r1 => hv ad σ H1 (ok.ext e1) _ fun u H2 e2 r2 => hr ad σ H2 ((ok.ext e1).ext e2) _ fun vs H3 e3 p => by
    have := q ((kk, u) :: vs) H3 ((e1.trans e2).trans e3) (.cons ⟨rfl, Dn.goF (fun _ _ r => r) d u hd (r2.ext e3)⟩ p)
    rw [List.map_cons] at this
    rw [dn_key r1]
    exact this
theorem mergeK_app : ∀ (more kvs : List (Key × V)), ((kvs ++ more).map (·.1)).Nodup → mergeK kvs more = kvs ++ more
  | [], kvs, _ => by simp [mergeK]
  | p :: more, kvs, h => by
    have e : putK kvs p.1 p.2 = kvs ++ [p] := by
      have hn : ∀ q ∈ kvs, q.1 ≠ p.1 := fun q hq z => by
        rw [List.map_append, List.nodup_append] at h
        exact h.2.2 q.1 (List.mem_map_of_mem hq) p.1 (by simp) z
      unfold putK
      rw [if_neg]
      intro z
      obtain ⟨q, hq, e⟩ := List.any_eq_true.mp z
      exact hn q hq (of_decide_eq_true e)
    show mergeK (putK kvs p.1 p.2) more = _
    rw [e, mergeK_app more (kvs ++ [p]) (by simpa using h)]
    simp
theorem ef_disp {trs : List (TE × TE)} {kvs : List (Key × PyData)} (h : EvP c env os trs kvs) (hn : (kvs.map (·.1)).Nodup) (hl : kvs.length ≤ 15) : EvF c env os (tDisp trs) (.dK (kvs.map fun q => (q.1, SV.i q.2))) := fun ad σ H ok Q q p hp => by
  refine h ad σ _ (ok.ext (Ex.new hp)) _ fun vs H2 e pv => ?_
  have hp2 : H2 p = some (.dK []) := e _ _ upd_same
  have hkeys : vs.map (·.1) = kvs.map (·.1) := by
    clear h hn hl q
    induction pv with
    | nil => rfl
    | cons r t ih => rw [List.map_cons, List.map_cons, r.1, ih]
  refine ⟨hp2, vs, rfl, by have := congrArg List.length hkeys; simp at this; omega, ?_⟩
  rw [mergeK_app vs [] (by simpa [hkeys] using hn), List.nil_append]
  refine q p _ hp (fun a o ha => ?_) ⟨vs, upd_same, ?_⟩
  · rw [upd_ne (ne_of_none ha hp)]
    exact e a o (by rw [upd_ne (ne_of_none ha hp)]; exact ha)
  · have mutd : ∀ (v : V) (d : PyData), Dn c.K (fun _ => True) H2 v d → Dn c.K (fun a => Nof c ad os a ∨ a = p) (upd H2 p (.dK vs)) v d := fun v d r => (r.mut hp2 rfl True.intro).sub fun _ _ => True.intro
    clear hkeys h hn hl q e
    generalize upd H2 p (HO.dK vs) = H3 at mutd
    induction pv with
    | nil => exact .nil
    | cons r t ih => exact .cons ⟨r.1, mutd _ _ r.2⟩ (ih)
/-- divmod -/
theorem ex_divmod {r : List V → Hp → VK → Prop} {i j : Int} (hr : r = fun xs H Q => ∃ i j, xs = [.int i, .int j] ∧ CDiv i j ∧ ∀ p, H p = none → Q (.ref p) (upd H p (.tup [.int (i / j), .int (i % j)]))) (ha : EvX true c env os ta (.int i)) (hb : EvX true c env os tb (.int j)) (hc : CDiv i j) : EvX w c env os (tCB r (tCons ta (tCons tb tNil))) (.tuple [.int (i / j), .int (i % j)]) := fun ad σ H ok Q q => by
  subst hr
  refine ha ad σ H ok _ fun v H1 e1 r1 => hb ad σ H1 (ok.ext e1) _ fun u H2 e2 r2 => ⟨i, j, by rw [dn_int r1, dn_int r2], hc, fun p hp => ?_⟩
  exact q _ _ ((e1.trans e2).trans (Ex.new hp)) (.tup (Or.inl (Or.inl upd_same)) (.cons (.int _) (.cons (.int _) .nil)))
end
end DL

set_option Elab.async false
set_option linter.all false
set_option maxRecDepth 100000
set_option maxHeartbeats 2000000
/-! The data layer: enumerate of a text. -/
namespace L2
open PySem PySem.Spec PyProof.Rows
def IteS (x : Str) : It :=
  ⟨fun i _ => i < x.cps.size, fun i H v H' => ∃ T c, v = .ref T ∧ H T = none ∧ H' = upd H T (.tup [.int (i : Nat), .str ⟨#[c]⟩]) ∧ x.cps[i]? = some c, fun i _ => x.cps.size ≤ i⟩
theorem turn_enumS {P : Program} {w : World} {K : PySem.W.Frag} {elts : List Expr} {kk : Nat} {tpos : Pos} (e it : Addr) (x : Str) (t : Tok) (ty : String) (hty : ty = "str_ascii_iterator" ∨ ty = "str_iterator") :
    Turn P w K (.Tuple elts kk tpos) (IteS x) [e, it] e (fun i h => (∃ old, IsEnum h e it ((i : Nat) : Int) old) ∧ h.IsStrIter it ty x t i ∧ e ≠ it) where
  mem := by simp
  obj := fun i h st b hb => by
    obtain ⟨⟨old, he⟩, ⟨o, ho, hc, hd⟩, _⟩ := st
    have e' : b = e ∨ b = it := by simpa using hb
    rcases e' with z | z
    · rw [z]; exact ⟨_, he, fun v q => nomatch q⟩
    · rw [z]; exact ⟨o, ho, fun v q => by rw [hd] at q; cases q⟩
  keep := fun i h h' st k => let ⟨⟨old, he⟩, ⟨o, ho, r⟩, hne⟩ := st; ⟨⟨old, k e (by simp) _ he⟩, ⟨o, k it (by simp) o ho, r⟩, hne⟩
  item := by
    intro X hP hw hK hc i pins s σ H E I hf st hg
    subst hP hw hK
    obtain ⟨⟨old, he⟩, hit, hne⟩ := st
    have D : Draws X.prog X.w X.A.in1 it [it] x.cps.size (fun i v => ∃ c u, x.cps[i]? = some c ∧ v = .str ⟨#[c]⟩ u) (fun i h => h.IsStrIter it ty x t i) := by
      rcases hty with z | z
      · rw [z]; exact Draws.strAscii (A := X.A.in1) (I.ok.hd hc) it x t
      · rw [z]; exact Draws.strWide (A := X.A.in1) (I.ok.hd hc) it x t
    have hel : e < s.heap.objs.size := Heap.lt_size he
    have hil : it < s.heap.objs.size := by obtain ⟨_, q, _⟩ := hit; exact Heap.lt_size q
    refine wpAny_pyNext_enum_itemD D he hit hg hne (by simpa using hne) fun y h' tk hP ho hit' hT hsz hk => ?_
    obtain ⟨c, u, hcx, rfl⟩ := hP
    refine ⟨_, rfl, wpAny_letOwnedTupleGo_enum (s := { s with heap := h', toks := tk + 1 }) ho fun h'' he' sb => ?_⟩
    have hT2 : h''.get? s.heap.objs.size = some { cls := .type "tuple", data := .seq #[.int i tk, .str ⟨#[c]⟩ u] } := (sb.2 _ (Nat.ne_of_gt hel)).trans hT
    have new : ObjOk X.prog X.w (upd H s.heap.objs.size (.tup [.int (i : Nat), .str ⟨#[c]⟩])) h'' s.heap.objs.size (.tup [.int (i : Nat), .str ⟨#[c]⟩]) :=
      ⟨by show 2 ≤ sizeLine; decide, [.int i tk, .str ⟨#[c]⟩ u], .cons ⟨_, rfl⟩ (.cons ⟨_, rfl⟩ .nil), ⟨_, hT2, rfl, _, rfl⟩⟩
    have I1 : Inv X pins σ (upd H s.heap.objs.size (.tup [.int (i : Nat), .str ⟨#[c]⟩])) { s with heap := h'', toks := tk + 1 } :=
      I.turnedNew (ch := [e, it]) (fun b ob hb q => (sb.2 b (fun z => hb (by simp [z]))).trans (hk b ob (fun z => hb (by simp [z])) (fun z => hb (by simp [z])) q)) hf (Nat.le_refl _) new
    refine ⟨.ref s.heap.objs.size, _, I1, rfl, ⟨_, c, rfl, I.hok.fresh (Nat.le_refl _), rfl, hcx⟩, ⟨⟨.str ⟨#[c]⟩ u, ?_⟩, ?_, hne⟩, fun b hb => ?_⟩
    · have e1 : ((i + 1 : Nat) : Int) = (i : Int) + 1 := by omega
      rw [e1]; exact he'
    · obtain ⟨o, ho2, r⟩ := hit'
      exact ⟨o, (sb.2 it (Ne.symm hne)).trans ho2, r⟩
    · have hb' : b < s.heap.objs.size := by
        have e' : b = e ∨ b = it := by simpa using hb
        rcases e' with z | z
        · rw [z]; exact hel
        · rw [z]; exact hil
      rw [upd_ne (Nat.ne_of_lt hb')]
      exact (hf b hb).1
  done := by
    intro X hP hw hK hc i pins s σ H E I hf st hg
    subst hP hw hK
    obtain ⟨⟨old, he⟩, hit, hne⟩ := st
    obtain ⟨f0, f1, f2, f3, f4, f5⟩ := hf it (by simp)
    have D : Draws X.prog X.w X.A.in1 it [it] x.cps.size (fun i v => ∃ c u, x.cps[i]? = some c ∧ v = .str ⟨#[c]⟩ u) (fun i h => h.IsStrIter it ty x t i) := by
      rcases hty with z | z
      · rw [z]; exact Draws.strAscii (A := X.A.in1) (I.ok.hd hc) it x t
      · rw [z]; exact Draws.strWide (A := X.A.in1) (I.ok.hd hc) it x t
    have hx : x.cps[i]? = none := Array.getElem?_eq_none hg
    have hg2 : x.cps.size ≤ i := hg
    have hle : i = x.cps.size ∨ x.cps.size < i := by omega
    rcases hle with z | z
    · subst z
      exact wpAny_pyNext_enum_endD D he hit fun h' eb => ⟨rfl, I.turned (t' := s.toks) (fun b o hb q => eb b o hb q) f0 f1 f3 f4 f5⟩
    · have D2 : Draws X.prog X.w X.A.in1 it [it] i (fun i v => ∃ c u, x.cps[i]? = some c ∧ v = .str ⟨#[c]⟩ u) (fun j h => h.IsStrIter it ty x t j ∧ x.cps.size < i ∧ j = i) := by
        refine ⟨fun j h st => D.live j h st.1, fun j h h' st hk => ⟨D.frame j h h' st.1 hk, st.2⟩, fun j s Q E hj st hQ => absurd st.2.2 (by omega), fun s Q E st hE => ?_⟩
        rcases hty with y | y
        · rw [y] at st; exact wpAny_nextOf_ascii_end (A := X.A.in1) (I.ok.hd hc) st.1 hx hE
        · rw [y] at st; exact wpAny_nextOf_wide_end (A := X.A.in1) (I.ok.hd hc) st.1 hx hE
      exact wpAny_pyNext_enum_endD D2 he ⟨hit, z, rfl⟩ fun h' eb => ⟨rfl, I.turned (t' := s.toks) (fun b o hb q => eb b o hb q) f0 f1 f3 f4 f5⟩
  self := fun A i s Q E st h => let ⟨⟨_, he⟩, _⟩ := st; wpAny_pyIter_enum he h
def iEnumS (ta : TA) : TI := fun σ H R => ta σ H fun vs H1 => ∃ x, vs = [.str x] ∧ R (IteS x) H1
theorem pi_enumS {X : Cx} {e : Expr} {ta : TA} {p pos tpos : Pos} {elts : List Expr} {kk : Nat} (hg : Gl X "enumerate") (hm : X.mg "enumerate" = none) (ha : PA X [e] ta) (hs : starEach [e] X.env = [(false, eval e X.env)] := by rfl) :
    PI X (.Tuple elts kk tpos) (.Call (.Name "enumerate" p) [e] [] pos) (iEnumS ta) := by
  refine ⟨fun pins s σ H R I h => ?_⟩
  refine Call_ (ld_blt I hg hm boot_enumerate (PyProof.Rows.callWith_type1 (thn (ha.run pos pins s σ H _ I h) fun us s1 ⟨vs, H1, I1, r1, q1⟩ => ?_) hs rfl))
  obtain ⟨x, ex, q⟩ := q1
  subst ex
  cases r1 with
  | cons r rr =>
    cases rr
    obtain ⟨t, rfl⟩ := r
    refine call_enumerate_str fun h' he hit hsz hk => wpAny_pyIter_enum he ?_
    have I2 : Inv X pins σ H1 { s1 with heap := h' } := I1.kept (t' := s1.toks) hk
    have hty : strIterType x = "str_ascii_iterator" ∨ strIterType x = "str_iterator" := by unfold strIterType; split <;> simp
    refine ⟨s1.heap.objs.size + 1, [s1.heap.objs.size + 1, s1.heap.objs.size], _, _, H1, rfl, I2, turn_enumS (s1.heap.objs.size + 1) s1.heap.objs.size x t (strIterType x) hty, ⟨⟨.none, he⟩, hit, Nat.succ_ne_self _⟩, fun b hb => ?_, q⟩
    have e' : b = s1.heap.objs.size + 1 ∨ b = s1.heap.objs.size := by simpa using hb
    have hle : s1.heap.objs.size ≤ b := by
      rcases e' with z | z
      · rw [z]; exact Nat.le_add_right _ _
      · rw [z]; exact Nat.le_refl _
    exact I1.fpOk hle (I1.hok.fresh hle)
end L2
namespace DL
open PySem PySem.Spec PyProof.Rows L2
open Evl (Ex Ex.refl Ex.trans Ex.new)
theorem ew_enumS {c : Cn} {env : Sy} {os : List SO} {te : TE} {a : List Nat} (h : EvX true c env os te (dT a)) : EvW c env os (iEnumS (tCons te tNil)) a.length (fun i => .i (.tuple [.int (i : Int), dT [a.getD i 0]])) (fun _ => True) := fun ad σ H ok R q =>
  h ad σ H ok _ fun v H1 e r => by
    refine ⟨sT a, by rw [dn_str r], q _ H1 c.fr e (ok.ext e).pin0 (up_pin0 (ok.ext e)) ⟨fun i ad' env' os' σ' H' hi o _ => ?_, fun ad' env' os' σ' H' o _ => ?_, fun i ad' env' os' σ' H' x H'' hi o _ y => ?_⟩⟩
    · show i < (sT a).cps.size
      simpa using hi
    · show (sT a).cps.size ≤ _
      simp
    · obtain ⟨T, x, rfl, hT, rfl, hx⟩ := y
      refine ⟨Ex.new hT, ?_⟩
      have hx2 : a[i]? = some x := by simpa using hx
      rw [List.getD_eq_getElem?_getD, hx2]
      exact Dn.tup (Or.inl (Or.inl upd_same)) (.cons (.int _) (.cons (.str _) .nil))
theorem itE_at {a : List Nat} (i : Nat) (x : Nat) (h : a[i]? = some x) : (SV.i (.tuple [.int (i : Int), dT [a.getD i 0]])) = .i (.tuple [.int (i : Int), dT [x]]) := by rw [List.getD_eq_getElem?_getD, h]; rfl
end DL

set_option Elab.async false
set_option linter.all false
set_option maxRecDepth 100000
set_option maxHeartbeats 2000000
/-! The data layer: a generator that hands out a list's items; list(g). -/
namespace L2
open PySem PySem.Spec PyProof.Rows GenW
section
variable {prog : Program} {w : World} {A : Around} {E : Value → Shared → Prop} {s : Shared}
theorem special_lst_item {it l : Addr} {i : Nat} {items : Array Value} {x : Value} {Q : Option Value → Shared → Prop} (hit : s.heap.IsListIter it l i) (hl : s.heap.IsList l items) (hx : items[i]? = some x)
    (hQ : ∀ h', h'.IsListIter it l (i + 1) → Heap.SameBut it s.heap h' → Q (some x) { s with heap := h' }) : wpAny (model prog w) A (callSpecial? (.ref it) "__next__") Q E s := by
  obtain ⟨o, ho, hc, hd⟩ := id hit
  obtain ⟨ol, hol, _, nl, hdl⟩ := hl
  refine wpAny_callSpecial?_slot (name := Str.ofString "__next__") hit.typeIs slot_listiter_next (wpAny_call_entry slot_listiter_next hit.typeIs entry_listiter_next ?_ (args_listiter_next _))
  show wpAny _ _ (field (.ref it) 0 >>= _) _ _ s
  refine wpAny_bind (wpAny_field ho hd (x := .ref l) rfl ?_)
  show wpAny _ _ (if (Value.ref l == Value.none) = true then _ else _) _ _ s
  rw [if_neg (show ¬ ((Value.ref l == Value.none) = true) from Bool.false_ne_true)]
  show wpAny _ _ (field (.ref it) 1 >>= _) _ _ s
  refine wpAny_bind (wpAny_field ho hd (x := .int i 0) rfl ?_)
  show wpAny _ _ (seqItems? (.ref l) >>= _) _ _ s
  refine wpAny_bind (wpAny_seqItems hol hdl ?_)
  simp only [Int.toNat_natCast, hx]
  refine wpAny_bind (wpAny_setField ho hd (by simp) (wpAny_pure ⟨x, rfl, hQ _ ?_ (Heap.SameBut.update ..)⟩))
  exact ⟨_, Heap.get?_update_self _ ho (Obj.isFreed_of_fields (Obj.data_mapFields hd _)), (Obj.cls_mapFields ..).trans hc, by
    rw [Obj.data_mapFields hd]; simp [rawInt]⟩
theorem special_lst_end {it l : Addr} {i : Nat} {items : Array Value} {Q : Option Value → Shared → Prop} (hh : A.handled = none) (hit : s.heap.IsListIter it l i) (hl : s.heap.IsList l items) (hx : items[i]? = none)
    (hE : ∀ e h', StopX e h' → Heap.ExtBut it s.heap h' → E e { s with heap := h' }) : wpAny (model prog w) A (callSpecial? (.ref it) "__next__") Q E s := by
  obtain ⟨o, ho, hc, hd⟩ := id hit
  obtain ⟨ol, hol, _, nl, hdl⟩ := hl
  refine wpAny_callSpecial?_slot (name := Str.ofString "__next__") hit.typeIs slot_listiter_next (wpAny_call_entry slot_listiter_next hit.typeIs entry_listiter_next ?_ (args_listiter_next _))
  show wpAny _ _ (field (.ref it) 0 >>= _) _ _ s
  refine wpAny_bind (wpAny_field ho hd (x := .ref l) rfl ?_)
  show wpAny _ _ (if (Value.ref l == Value.none) = true then _ else _) _ _ s
  rw [if_neg (show ¬ ((Value.ref l == Value.none) = true) from Bool.false_ne_true)]
  show wpAny _ _ (field (.ref it) 1 >>= _) _ _ s
  refine wpAny_bind (wpAny_field ho hd (x := .int i 0) rfl ?_)
  show wpAny _ _ (seqItems? (.ref l) >>= _) _ _ s
  refine wpAny_bind (wpAny_seqItems hol hdl ?_)
  simp only [Int.toNat_natCast, hx]
  refine wpAny_bind (wpAny_rule (wpAny_bind (wpAny_setField ho hd (by simp) ?_)))
  show wpAny _ _ (newExc (.type "StopIteration") [] >>= _) _ _ _
  refine wpAny_bind ?_
  simp only [newExc, newTuple]
  refine wpAny_bind (wpAny_newObj_type ?_ (by size_fits))
  refine wpAny_bind (m := firstArgMember _ _) (wpAny_of_eq (a := Value.none) (by first | rfl | (simp only [firstArgMember]; rfl)) ?_)
  refine wpAny_newObj_type ?_ (by size_fits)
  simp only [raiseNew]
  refine wpAny_bind (wpAny_handled ?_)
  first | rw [show A.in1.handled = none from hh] | rw [hh]
  refine wpAny_bind (wpAny_pure (wpAny_throw ?_))
  refine hE _ _ ⟨_, _, _, rfl, Heap.get?_push_size _ rfl, rfl, rfl, ?_⟩ (((Heap.SameBut.update ..).extBut.push _).push _)
  first
    | rfl
    | (rw [Array.getElem?_append_left (by decide)]; rfl)
    | kernel_rfl
end
section
variable {X : Cx} {e : Expr} {te : TE}
def tYfLst (te : TE) : TYf := fun σ H Q => te σ H fun x H1 => ∃ a xs, x = .ref a ∧ H1 a = some (.lst xs) ∧ Q xs H1
theorem close_lst : typeLookup (.type "list_iterator") "close" = pure none := by rw [typeLookup_type, builtinLookup_eq_fast]; kernel_rfl
theorem yf_lst (he : PE X e te) : YfE X e (tYfLst te) := by
  refine ⟨fun pins s σ H Q I h => ?_⟩
  refine thn (he.run pins s σ H _ I h) fun v s1 ⟨x, H1, I1, r1, a, xs, ex, ha, hq⟩ => ?_
  subst ex
  obtain rfl : v = Value.ref a := r1
  obtain ⟨its, rits, pl, hz⟩ := I1.list (Or.inl (Or.inl ha))
  have ht := pl.isList
  refine ⟨"list", ht.typeIs, by decide, wpAny_pyIter_list ht ?_⟩
  have ksz : ∀ b o, s1.heap.get? b = some o → b ≠ s1.heap.objs.size := fun b o e => Nat.ne_of_lt (Heap.lt_size e)
  have kp : ∀ b o, s1.heap.get? b = some o → (s1.heap.push { cls := .type "list_iterator", data := .fields #[.ref a, .int 0 0] }).get? b = some o := fun b o e => Heap.get?_push_of_some _ e
  have hal : a < s1.heap.objs.size := by obtain ⟨o, ho, _⟩ := ht; exact Heap.lt_size ho
  refine ⟨s1.heap.objs.size, H1, xs, fun j h => h.IsListIter s1.heap.objs.size a j ∧ h.IsList a its.toArray, rfl, I1.kept (t' := s1.toks) kp, .inr I1.sz, Nat.ne_of_gt I1.lt, fun y c hy => ?_, I1.hok.fresh (Nat.le_refl _), fun p hp => ?_,
    ⟨⟨_, Heap.get?_push_size _ rfl, rfl, rfl⟩, let ⟨o, ho, r⟩ := ht; ⟨o, kp a o ho, r⟩⟩, ⟨⟨"list_iterator", fun j h q => ?_, close_lst, by decide⟩, fun j h h' q hk => ?_, fun A' j x s2 Q' E' hA hx q hQ => ?_, fun A' s2 Q' E' hA q hE => ?_⟩, hq⟩
  · obtain ⟨v, o, ho, _⟩ := I1.cell y c hy
    exact ksz c o ho
  · exact ksz p.1 _ (I1.pin p hp).1
  · obtain ⟨⟨o, ho, hc, _⟩, _⟩ := q
    exact ⟨o, ho, hc⟩
  · obtain ⟨⟨o, ho, r⟩, o2, ho2, r2⟩ := q
    exact ⟨⟨o, hk _ o (.inl rfl) ho, r⟩, o2, hk _ o2 (.inr (by rw [ha]; exact fun z => by cases z)) ho2, r2⟩
  · obtain ⟨q1, q2⟩ := q
    obtain ⟨u, hu, ru⟩ := rits.get hx
    have hne : a ≠ s1.heap.objs.size := Nat.ne_of_lt hal
    exact special_lst_item q1 q2 (x := u) (by simpa using hu) fun h' q1' hs => hQ u h' s2.toks ru ⟨q1', q2.extBut hs.extBut hne⟩ fun b o hb eb => hs.extBut b o hb eb
  · obtain ⟨q1, q2⟩ := q
    have hnone : its.toArray[xs.length]? = none := by
      have e := rits.length
      have e2 : its[xs.length]? = none := List.getElem?_eq_none_iff.mpr (by omega)
      simpa using e2
    exact special_lst_end hA q1 q2 hnone fun e h' hS hk => hE e h' s2.toks hS fun b o hb eb => hk b o hb eb
end
end L2
namespace DL
open PySem PySem.Spec PyProof.Rows L2
open Evl (Ex Ex.refl Ex.trans Ex.new)
/-- data in; what is handed out -/
def spG (K : PySem.W.Frag) (R : List PyData → List PyData → Prop) : SpG := fun vs H Q _ => ∃ (N : Addr → Prop) (ds : List PyData) (rs : List PyData), (∀ a, N a → H a ≠ none) ∧ DnAll K N H vs ds ∧ R ds rs ∧ ∀ H' ws, Ex H H' → DnAll K N H' ws rs → Q ws H'
theorem spG_len {K : PySem.W.Frag} {R : List PyData → List PyData → Prop} {n : Nat} (hR : ∀ ds d, R ds d → ds.length = n) : ∀ vs H Q E, spG K R vs H Q E → vs.length = n := fun vs H Q E ⟨N, ds, d, _, h, r, _⟩ => h.length.trans (hR ds d r)
def CalG (P : Program) (w : World) (K : PySem.W.Frag) (mg : Str → Option Value) (base : Heap) (k : Nat) (x : Str) (ps : List Str) (sp : SpG) : Prop :=
  ∃ f fd, GFn P w K mg base k f fd ps sp ∧ Binds K fd ps [] ∧ mg x = some (.ref f) ∧ PySem.W.keepIn K (.ref f) = true
theorem calG_mk {P : Program} {w : World} {K : PySem.W.Frag} {mg : Str → Option Value} {base : Heap} {x : Str} {st : Stmt} {f : Addr} {fd : FuncData} {N ps : List Str} {k : Nat} {sp : SpG} (F : FnP K x st f fd) (S : GScope N ps (defScope st)) (g : mg x = some (.ref f)) (len : ∀ vs H Q E, sp vs H Q E → vs.length = ps.length)
    (hb : ∀ (kV doc pm : Value) (an : Option Addr) (cdv ct : Value) (us : List Value), us.length = ps.length → bindArgs (PySem.W.fnOf x x (defArgs st) (defBody st) (defScope st) .none kV doc pm an cdv ct) ⟨us, []⟩ = pure (ps.zip us))
    (hbody : ∀ (cdv : Value) (A : Around) (outer : List Env) (s : Shared) (H : Hp) (vs : List V) (Q : List V → Hp → Prop) (E : XK) (pn : List (Addr × Obj)), Room k (A.deeper (envOfC x (defScope st) s.heap.objs.size f cdv)) → sp vs H Q E →
      ∃ t, GSs (gcxOf P w K mg base N x (defScope st) f cdv A outer s H E pn) (defBody st) t ∧ t { nx := fun ys _ H' => Q ys H', rt := fun ys v H' => v = .non ∧ Q ys H' } [] (L2.start N vs) H) : CalG P w K mg base (k + 1) x ps sp := by
  refine ⟨f, fd, ?_, F.bindsN hb, g, F.kp⟩
  obtain ⟨oc, od, dV, kV, doc, pm, an, cdv, ct, osl, rfl, lk, hcd, _, _⟩ := F.ex
  exact gfn_of lk hcd S len fun A outer s H vs Q E pn hr hsp => hbody cdv A outer s H vs Q E pn hr hsp
theorem passG {X : Cx} : Passes (CX X.prog X.w) X E0 := fun pins σ H s e s' I c => by
  obtain ⟨a, B, H', cls, d, _, _, _, _, _, _, _, hW⟩ := c
  exact hW.elim
theorem pe_listCal {X : Cx} {k j : Nat} {ps : List Str} {sp : SpG} {x : Str} {p pos p2 pos2 : Pos} {e : Expr} {es : List Expr} {t : TA} (h : CalG X.prog X.w X.K X.mg X.base k x ps sp) (hr : Room j X.A) (hj : k + 3 ≤ j) (hg : Gl X x) (ha : PA X (e :: es) t)
    (hl : Gl X "list") (hm : X.mg "list" = none) (hpl : (backTo pos (starEach es X.env)).any (·.1) = false := by rfl)
    (hdb : (x == ("__debug__" : Str)) = false := by decide) (he : starEach (e :: es) X.env = (false, eval e X.env) :: starEach es X.env := by rfl)
    (he2 : starEach [.Call (.Name x p) (e :: es) [] pos] X.env = (false, eval (.Call (.Name x p) (e :: es) [] pos) X.env) :: starEach [] X.env := by rfl) :
    PE X (.Call (.Name "list" p2) [.Call (.Name x p) (e :: es) [] pos] [] pos2) (tListG (tCallG sp [] E0 t)) := by
  obtain ⟨f, fd, G, b, g, kp⟩ := h
  exact pe_listG (pgen_call (E := E0) G (hr.mono (by omega)) hg g kp b .nil ha hdb he hpl) passG (fun _ _ _ z => z.elim) (hr.mono (by omega)) hl hm rfl (by decide) (by decide) he2
section
variable {c : Cn} {env : Sy} {os : List SO} {ta : TA}
/-- list(g(..)) -/
theorem ef_listG {R : List PyData → List PyData → Prop} {E : XK} {ds rs : List PyData} (h : EvA false c env os ta ds) (hR : R ds rs) : EvF c env os (tListG (tCallG (spG c.K R) [] E ta)) (.lst (rs.map SV.i)) := fun ad σ H ok Q q =>
  h ad σ H ok _ fun vs H2 e a => by
    rw [Nw_false] at a
    rw [List.append_nil]
    refine ⟨Nof c ad os, ds, rs, fun b z => (ok.ext e).nof z, a, hR, fun H' ws e' h2 p hp => ?_⟩
    refine q p _ (e.free (e'.free hp)) ((e.trans e').trans (Ex.new hp)) ⟨ws, upd_same, ?_⟩
    exact dn_paired ((DnAll.add hp h2).ext (Ex.new hp))
/-- the body: yield from a new list -/
theorem run_yf {K : PySem.W.Frag} {R : List PyData → List PyData → Prop} {vs : List V} {H : Hp} {Q : List V → Hp → Prop} {E : XK} {Nm : List Str} {te : TE} {D : GEnds} (h : spG K R vs H Q E) (hD : D.nx = fun ys _ H' => Q ys H')
    (g : ∀ N ds rs, R ds rs → rs.length ≤ 100000 ∧ EvF ⟨K, H, N, fun _ => False, [], 0⟩ (env0 Nm.length ds) [] te (.lst (rs.map SV.i))) : tGThen (tGFrom (tYfLst te)) tG0 D [] (L2.start Nm vs) H := by
  obtain ⟨N, ds, rs, hN, hv, hR, hq⟩ := h
  obtain ⟨hl, hf⟩ := g N ds rs hR
  refine hf _ _ _ (ok_start hN hv) _ fun p H2 hp e r => ?_
  obtain ⟨ws, hws, pws⟩ := r
  refine ⟨p, ws, rfl, hws, ?_, ?_⟩
  · rw [List.length_nil, Nat.zero_add, Paired.length pws, List.length_map]; exact Nat.le_trans hl (by decide)
  · show D.nx ([] ++ ws) _ H2
    rw [hD, List.nil_append]
    exact hq H2 ws e ((paired_dn pws).sub fun a z => Or.inl (Or.inl z))
end
end DL

set_option Elab.async false
set_option linter.all false
set_option maxRecDepth 100000
set_option maxHeartbeats 2000000
/-! The data layer: dicts with whole numbers or texts as keys, as data; lists of the store within a dict of the store. -/
namespace DL
open PySem PySem.Spec PyProof.Rows L2
open Evl (Ex Ex.refl Ex.trans Ex.new)
/-! ### as data -/
def dKd {α β : Type} (ek : α → Key) (ev : β → PyData) (m : List (α × β)) : PyData := .dict (m.map fun p => (kdat (ek p.1), ev p.2))
section
variable {α β : Type} {K : PySem.W.Frag} {N : Addr → Prop} {H : Hp}
theorem dn_dK {ek : α → Key} {ev : β → PyData} {m : List (α × β)} {v : V} (h : Dn K N H v (dKd ek ev m)) : ∃ a ws, v = .ref a ∧ Rd H a (.dK ws) ∧ ¬ N a ∧ Paired (fun (p : Key × V) (q : α × β) => p.1 = ek q.1 ∧ Dn K N H p.2 (ev q.2)) ws m := by
  unfold dKd at h
  cases h with
  | @dkk a ws _ r n p =>
    refine ⟨_, _, rfl, r, n, ?_⟩
    clear r
    induction m generalizing ws with
    | nil =>
      cases ws with
      | nil => exact .nil
      | cons x ws => cases p
    | cons q m ih =>
      cases ws with
      | nil => cases p
      | cons x ws =>
        rw [List.map_cons, List.map_cons] at p
        generalize hk : kdat x.1 = kd at p
        generalize hk2 : kdat (ek q.1) = kd2 at p
        cases p with
        | cons a b => exact .cons ⟨kdat_inj (hk.trans hk2.symm), a⟩ (ih b)
  | @dkt a ws _ r n p =>
    cases m with
    | nil => cases p
    | cons q m =>
      rw [List.map_cons] at p
      generalize hk : kdat (ek q.1) = kd at p
      cases p
      cases hq : ek q.1 <;> rw [hq] at hk <;> cases hk
theorem dK_dn {ek : α → Key} {ev : β → PyData} {m : List (α × β)} {a : Addr} {ws : List (Key × V)} (r : Rd H a (.dK ws)) (n : ¬ N a) (p : Paired (fun (p : Key × V) (q : α × β) => p.1 = ek q.1 ∧ Dn K N H p.2 (ev q.2)) ws m) : Dn K N H (.ref a) (dKd ek ev m) := by
  refine .dkk r n ?_
  clear r
  induction p with
  | nil => exact .nil
  | cons r t ih =>
    rw [List.map_cons, List.map_cons, r.1]
    exact .cons r.2 ih
theorem pairK {ek : α → Key} {ev : β → PyData} {ad : Nat → Addr} {n : Nat} : ∀ {ws : List (Key × V)} {m : List (α × β)}, Paired (fun (p : Key × V) (q : Key × SV) => p.1 = q.1 ∧ SvOk K N ad n H p.2 q.2) ws (m.map fun p => (ek p.1, SV.i (ev p.2))) → Paired (fun (p : Key × V) (q : α × β) => p.1 = ek q.1 ∧ Dn K N H p.2 (ev q.2)) ws m
  | _, [], h => by cases h; exact .nil
  | _, q :: m, h => by
    cases h with
    | cons a b => exact .cons a (pairK b)
theorem pairKi {ek : α → Key} {ev : β → PyData} {ad : Nat → Addr} {n : Nat} : ∀ {ws : List (Key × V)} {m : List (α × β)}, Paired (fun (p : Key × V) (q : α × β) => p.1 = ek q.1 ∧ Dn K N H p.2 (ev q.2)) ws m → Paired (fun (p : Key × V) (q : Key × SV) => p.1 = q.1 ∧ SvOk K N ad n H p.2 q.2) ws (m.map fun p => (ek p.1, SV.i (ev p.2)))
  | _, _, .nil => .nil
  | _, _, .cons r t => .cons r (pairKi t)
variable [DecidableEq α]
theorem val_dK {ek : α → Key} (hi : ∀ a b, ek a = ek b → a = b) {F : V → β → Prop} : ∀ {ws : List (Key × V)} {m : List (α × β)}, Paired (fun (p : Key × V) (q : α × β) => p.1 = ek q.1 ∧ F p.2 q.2) ws m → ∀ a, (valV ws (ek a) = none ∧ getA m a = none) ∨ ∃ v b, valV ws (ek a) = some v ∧ getA m a = some b ∧ F v b
  | _, _, .nil, a => Or.inl ⟨rfl, rfl⟩
  | _, _, .cons (a := p) (b := q) r t, a => by
    rw [getA_cons]
    by_cases h : q.1 = a
    · rw [if_pos h]
      exact Or.inr ⟨p.2, q.2, valV_pos (r.1.trans (by rw [h])), rfl, r.2⟩
    · rw [if_neg h, valV_neg (fun z => h (hi _ _ (r.1.symm.trans z)))]
      exact val_dK hi t a
end
section
variable {α β : Type} [DecidableEq α] {w w' : Bool} {c : Cn} {env env' : Sy} {os : List SO} {te ta tb tl td ty tv tx : TE} {d : PyData} {u : TS} {D : Ends} {ek : α → Key} {ev : β → PyData} {m : List (α × β)}
theorem DGet.rk {H : Hp} {a : Addr} {kvs : List (Key × V)} {k : Key} (e : Rd H a (.dK kvs)) : DGet H a (kV k) (valV kvs k) := .inl ⟨kvs, k, e, rfl, rfl⟩
/-- k in d, k not in d, d[k] of data -/
theorem ex_inD {a : α} (hi : ∀ a b, ek a = ek b → a = b) (hk : EvX true c env os ty (kdat (ek a))) (hd : EvX true c env os td (dKd ek ev m)) : EvX w c env os (tDIn ty td) (.bool (getA m a).isSome) := fun ad σ H ok Q q =>
  hk ad σ H ok _ fun b H1 e1 r1 => hd ad σ H1 (ok.ext e1) _ fun v H2 e2 r2 => by
    obtain ⟨p, ws, rfl, hp, _, pw⟩ := dn_dK r2
    refine ⟨p, _, rfl, by rw [dn_key r1]; exact DGet.rk hp, ?_⟩
    rcases val_dK (F := fun v b => Dn c.K (Nw true c ad os) H2 v (ev b)) hi pw a with ⟨x, y⟩ | ⟨v, b, x, y, _⟩
    · rw [y] at q; rw [x]; exact q _ H2 (e1.trans e2) (.bl false)
    · rw [y] at q; rw [x]; exact q _ H2 (e1.trans e2) (.bl true)
theorem ex_notinD {a : α} (hi : ∀ a b, ek a = ek b → a = b) (hk : EvX true c env os ty (kdat (ek a))) (hd : EvX true c env os td (dKd ek ev m)) : EvX w c env os (tDNotIn ty td) (.bool (!(getA m a).isSome)) := fun ad σ H ok Q q =>
  hk ad σ H ok _ fun b H1 e1 r1 => hd ad σ H1 (ok.ext e1) _ fun v H2 e2 r2 => by
    obtain ⟨p, ws, rfl, hp, _, pw⟩ := dn_dK r2
    refine ⟨p, _, rfl, by rw [dn_key r1]; exact DGet.rk hp, ?_⟩
    rcases val_dK (F := fun v b => Dn c.K (Nw true c ad os) H2 v (ev b)) hi pw a with ⟨x, y⟩ | ⟨v, b, x, y, _⟩
    · rw [y] at q; rw [x]; exact q _ H2 (e1.trans e2) (.bl true)
    · rw [y] at q; rw [x]; exact q _ H2 (e1.trans e2) (.bl false)
theorem ex_dgetD {a : α} {b : β} (hi : ∀ a b, ek a = ek b → a = b) (hd : EvX w c env os td (dKd ek ev m)) (hk : EvX true c env os ty (kdat (ek a))) (hg : getA m a = some b) : EvX w c env os (tDGet td ty) (ev b) := fun ad σ H ok Q q =>
  hd ad σ H ok _ fun v H1 e1 r1 => hk ad σ H1 (ok.ext e1) _ fun y H2 e2 r2 => by
    obtain ⟨p, ws, rfl, hp, _, pw⟩ := dn_dK (r1.ext e2)
    rcases val_dK (F := fun v b => Dn c.K (Nw w c ad os) H2 v (ev b)) hi pw a with ⟨x, z⟩ | ⟨v, b', x, z, f⟩
    · rw [hg] at z; cases z
    · rw [hg] at z; cases z
      exact ⟨p, v, rfl, by rw [dn_key r2, ← x]; exact DGet.rk hp, q v H2 (e1.trans e2) f⟩
theorem EvF.evK (h : EvF c env os te (.dK (m.map fun p => (ek p.1, SV.i (ev p.2))))) : EvX w c env os te (dKd ek ev m) := EvX.weak fun ad σ H ok Q q => h ad σ H ok Q fun p H2 hp e r => by
  obtain ⟨ws, h1, h2⟩ := r
  refine q _ H2 e ?_
  rw [Nw_false]
  exact dK_dn (Or.inl h1) (fun z => ok.nof z hp) (Paired.imp (pairK h2) fun _ _ z => ⟨z.1, z.2.sub fun a y => Or.inl y⟩)
/-! ### of the store -/
theorem ex_notinK {k : Nat} {kvs : List (Key × SV)} {kk : Key} (hi : EvX true c env os ty (kdat kk)) (hl : EvR c env os td k) (hk : os[k]? = some (.dK kvs)) : EvX w c env os (tDNotIn ty td) (.bool (!(getA kvs kk).isSome)) := fun ad σ H ok Q q =>
  hi ad σ H ok _ fun b H1 e1 r1 => hl.2 ad σ H1 (ok.ext e1) _ fun H2 e2 => by
    obtain ⟨_, ws, hws, pw⟩ := ((ok.ext e1).ext e2).obj k _ hk rfl
    refine ⟨ad k, _, rfl, by rw [dn_key r1]; exact DGet.k hws, ?_⟩
    rcases val_get (F := SvOk c.K (Nof c ad os) ad os.length H2) pw kk with ⟨x, y⟩ | ⟨v, b, x, y, _⟩
    · rw [y] at q; rw [x]; exact q _ H2 (e1.trans e2) (.bl true)
    · rw [y] at q; rw [x]; exact q _ H2 (e1.trans e2) (.bl false)
theorem er_dget {k j : Nat} {kvs : List (Key × SV)} {kk : Key} (hl : EvR c env os td k) (hk : os[k]? = some (.dK kvs)) (hi : EvX true c env os ty (kdat kk)) (hg : getA kvs kk = some (.r j)) (hj : j < os.length) : EvR c env os (tDGet td ty) j := ⟨hj, fun ad σ H ok Q q =>
  hl.2 ad σ H ok _ fun H1 e1 => hi ad σ H1 (ok.ext e1) _ fun v H2 e2 r2 => by
    obtain ⟨_, ws, hws, pw⟩ := ((ok.ext e1).ext e2).obj k _ hk rfl
    rcases val_get (F := SvOk c.K (Nof c ad os) ad os.length H2) pw kk with ⟨_, b⟩ | ⟨x, s, a, b, f⟩
    · rw [hg] at b; cases b
    · rw [hg] at b; cases b
      obtain ⟨rfl, _⟩ := (show x = .ref (ad j) ∧ j < os.length from f)
      exact ⟨ad k, _, rfl, by rw [dn_key r2, ← a]; exact DGet.k hws, q H2 (e1.trans e2)⟩⟩
/-- d[k] = a new object -/
theorem gs_dputF {k : Nat} {kvs : List (Key × SV)} {kk : Key} {o : SO} (h : EvF c env os tv o) (hl : EvR c env os td k) (hk : os[k]? = some (.dK kvs)) (hi : EvX true c env os ty (kdat kk)) (hz : kvs.length < 100000)
    (g : Go c env ((os ++ [o]).set k (.dK (setA kvs kk (.r os.length)))) u D) : Go c env os (tSeq (sDPut td ty tv) u) D := fun ad σ H ok =>
  h ad σ H ok _ fun p H1 hp e r => hl.2 ad σ H1 (ok.ext e) _ fun H2 e2 => hi ad σ H2 ((ok.ext e).ext e2) _ fun y H3 e3 r3 => by
    have h0 : c.H0 p = none ∨ c.M p := by
      by_cases hm : c.M p
      · exact Or.inr hm
      · refine Or.inl ?_
        cases hz : c.H0 p with
        | none => rfl
        | some o => rw [ok.ex p o hz hm] at hp; cases hp
    have ok1 := ok.new hp e h0 r
    have ok3 := (ok1.ext e2).ext e3
    have hlt : k < os.length := (List.getElem?_eq_some_iff.mp hk).1
    have hk' : (os ++ [o])[k]? = some (.dK kvs) := by rw [List.getElem?_append_left hlt]; exact hk
    obtain ⟨_, ws, hws, pw⟩ := ok3.obj k _ hk' rfl
    have ea : adN ad os.length p k = ad k := adN_ne (by omega)
    have hN : Nof c (adN ad os.length p) (os ++ [o]) (adN ad os.length p k) := Or.inr ⟨k, ⟨_, hk', rfl⟩, rfl⟩
    have ok4 := ok3.mut (u' := .dK (putK ws kk (.ref p))) hk' rfl (o' := .dK (setA kvs kk (.r os.length))) rfl ⟨putK ws kk (.ref p), upd_same, put_set (Paired.imp pw fun _ _ z => ⟨z.1, z.2.mut hws rfl hN⟩) ⟨by rw [adN_same], by simp⟩⟩
    rw [ea] at ok4 hws
    refine ⟨ad k, _, rfl, ?_, g _ σ _ ok4⟩
    rw [dn_key r3]
    exact DPut.k hws (by rw [Paired.length pw]; exact Nat.lt_of_lt_of_le hz (by decide))
theorem paired_setR {γ δ : Type} {F G : γ → δ → Prop} {b' : δ} : ∀ {l1 : List γ} {l2 : List δ} {i : Nat}, Paired F l1 l2 → (∀ a b, F a b → G a b) → (∀ a b, l2[i]? = some b → F a b → G a b') → Paired G l1 (l2.set i b')
  | _, _, _, .nil, _, _ => .nil
  | _, _, 0, .cons r t, f, h => .cons (h _ _ rfl r) (Paired.imp t f)
  | _, _, i + 1, .cons r t, f, h => .cons (f _ _ r) (paired_setR t f fun a b e q => h a b (by simpa using e) q)
/-- a list within a dict is data from now on -/
theorem Ok.ownD {ad : Nat → Addr} {σ : L2.St} {H : Hp} {k j i0 : Nat} {kk : Key} {kvs : List (Key × SV)} {ds : List PyData} (ok : Ok c ad env os σ H) (hk : os[k]? = some (.dK kvs)) (hj : os[j]? = some (.lst (ds.map SV.i))) (hi : kvs[i0]? = some (kk, .r j)) (kj : k ≠ j) :
    Ok c ad env ((os.set k (.dK (kvs.set i0 (kk, .i (.list ds))))).set j .x) σ H := by
  have lj : Lv os j := ⟨_, hj, rfl⟩
  have lk : Lv os k := ⟨_, hk, rfl⟩
  have kl := (List.getElem?_eq_some_iff.mp hk).1
  have jl := (List.getElem?_eq_some_iff.mp hj).1
  have hl : ∀ i, Lv ((os.set k (.dK (kvs.set i0 (kk, .i (.list ds))))).set j .x) i → Lv os i ∧ i ≠ j := fun i h => by
    obtain ⟨u, e, hu⟩ := h
    by_cases q : j = i
    · subst q
      rw [List.getElem?_set_self (by rw [List.length_set]; exact jl)] at e
      cases e; cases hu
    · rw [List.getElem?_set_ne q] at e
      by_cases q2 : k = i
      · subst q2; exact ⟨lk, fun z => q z.symm⟩
      · rw [List.getElem?_set_ne q2] at e
        exact ⟨⟨u, e, hu⟩, fun z => q z.symm⟩
  have len : ((os.set k (.dK (kvs.set i0 (kk, .i (.list ds))))).set j .x).length = os.length := by simp
  have hN : ∀ a, Nof c ad ((os.set k (.dK (kvs.set i0 (kk, .i (.list ds))))).set j .x) a → Nof c ad os a ∧ a ≠ ad j := fun a h => by
    rcases h with h | ⟨i, l, e⟩
    · exact ⟨Or.inl h, fun z => ok.nn j lj (z ▸ h)⟩
    · obtain ⟨l', ne⟩ := hl i l
      exact ⟨Or.inr ⟨i, l', e⟩, fun z => ne (ok.inj i j l' lj (e.symm.trans z))⟩
  have hv : ∀ v s, SvOk c.K (Nof c ad os) ad os.length H v s → SvOk c.K (Nof c ad ((os.set k (.dK (kvs.set i0 (kk, .i (.list ds))))).set j .x)) ad ((os.set k (.dK (kvs.set i0 (kk, .i (.list ds))))).set j .x).length H v s := fun v s h => by
    rw [len]
    exact h.sub fun a q => (hN a q).1
  obtain ⟨_, vs, hvs, pv⟩ := ok.obj j _ hj rfl
  have hd : Dn c.K (Nof c ad ((os.set k (.dK (kvs.set i0 (kk, .i (.list ds))))).set j .x)) H (.ref (ad j)) (.list ds) :=
    .lst (Or.inl hvs) (fun z => (hN _ z).2 rfl) ((paired_dn pv).sub fun a q => (hN a q).1)
  refine ⟨ok.len, ok.ex, ok.n0, fun i s h => ?_, fun i o h l => ?_, fun a b la lb => ok.inj a b (hl a la).1 (hl b lb).1, fun a la => ok.nn a (hl a la).1, fun p hp => (ok.frm p hp).sub fun a q => (hN a q).1, by rw [len]; exact ok.low⟩
  · obtain ⟨v, h1, h2⟩ := ok.val i s h
    exact ⟨v, h1, hv v s h2⟩
  · by_cases q : j = i
    · subst q
      rw [List.getElem?_set_self (by rw [List.length_set]; exact jl)] at h
      cases h; cases l
    · rw [List.getElem?_set_ne q] at h
      by_cases q2 : k = i
      · subst q2
        rw [List.getElem?_set_self kl] at h
        cases h
        obtain ⟨h1, ws, hws, pw⟩ := ok.obj k _ hk rfl
        refine ⟨h1, ws, hws, paired_setR pw (fun a b z => ⟨z.1, hv _ _ z.2⟩) fun a b e z => ?_⟩
        rw [hi] at e
        cases e
        obtain ⟨z1, z2, _⟩ := z
        refine ⟨z1, ?_⟩
        show Dn _ _ _ _ _
        rw [z2]
        exact hd
      · rw [List.getElem?_set_ne q2] at h
        obtain ⟨h1, h2⟩ := ok.obj i o h l
        exact ⟨h1, h2.map hv fun u e => e⟩
theorem gs_ownD {k j i0 : Nat} {kk : Key} {kvs : List (Key × SV)} {ds : List PyData} (hk : os[k]? = some (.dK kvs)) (hj : os[j]? = some (.lst (ds.map SV.i))) (hi : kvs[i0]? = some (kk, .r j)) (kj : k ≠ j) (g : Go c env ((os.set k (.dK (kvs.set i0 (kk, .i (.list ds))))).set j .x) u D) : Go c env os u D := fun ad σ H ok => g ad σ H (ok.ownD hk hj hi kj)
/-! ### a fresh dict is told by a def -/
def spI {α β : Type} (K : PySem.W.Frag) (ek : α → Key) (ev : β → PyData) (R : List PyData → List (α × β) → Prop) : Sp := fun vs H Q _ => ∃ (N : Addr → Prop) (ds : List PyData) (m : List (α × β)), (∀ a, N a → H a ≠ none) ∧ DnAll K N H vs ds ∧ R ds m ∧
  ∀ p H' ws, H p = none → Ex H H' → H' p = some (.dK ws) → Paired (fun (x : Key × V) (y : α × β) => x.1 = ek y.1 ∧ Dn K (fun a => N a ∨ a = p) H' x.2 (ev y.2)) ws m → Q (.ref p) H'
theorem ef_callI {R : List PyData → List (α × β) → Prop} {E : XK} {ta : TA} {ds : List PyData} (h : EvA false c env os ta ds) (hR : R ds m) : EvF c env os (tCall (spI c.K ek ev R) [] E ta) (.dK (m.map fun p => (ek p.1, SV.i (ev p.2)))) := fun ad σ H ok Q q =>
  h ad σ H ok _ fun vs H2 e a => by
    rw [List.append_nil]
    rw [Nw_false] at a
    exact ⟨Nof c ad os, ds, m, fun b z => (ok.ext e).nof z, a, hR, fun p H' ws hp e' h1 h2 => q p H' (e.free hp) (e.trans e') ⟨ws, h1, pairKi h2⟩⟩
theorem spI_len {K : PySem.W.Frag} {R : List PyData → List (α × β) → Prop} {n : Nat} (hR : ∀ ds d, R ds d → ds.length = n) : ∀ vs H Q E, spI K ek ev R vs H Q E → vs.length = n := fun vs H Q E ⟨N, ds, d, _, h, r, _⟩ => h.length.trans (hR ds d r)
def RetI (ek : α → Key) (ev : β → PyData) (c : Cn) (m : List (α × β)) (D : Ends) : Prop := ∀ p H2 ws, c.H0 p = none → (∀ a o, c.H0 a = some o → ¬ c.M a → H2 a = some o) → H2 p = some (.dK ws) → Paired (fun (x : Key × V) (y : α × β) => x.1 = ek y.1 ∧ Dn c.K (fun a => c.N0 a ∨ a = p) H2 x.2 (ev y.2)) ws m → D.rt (.ref p) H2
theorem gs_retI {k : Nat} (h : EvR c env os te k) (hk : os[k]? = some (.dK (m.map fun p => (ek p.1, SV.i (ev p.2))))) (hM : ∀ a, ¬ c.M a) (q : RetI ek ev c m D) : Go c env os (tSeq (tRet te) u) D := fun ad σ H ok =>
  h.2 ad σ H ok _ fun H2 e => by
    have ok2 := ok.ext e
    obtain ⟨h0, vs, h1, h2⟩ := ok2.obj k _ hk rfl
    refine q (ad k) H2 vs (h0.resolve_right (hM _)) ok2.ex h1 (Paired.imp (pairK h2) fun x y z => ⟨z.1, z.2.sub fun a y => ?_⟩)
    rcases y with y | y
    · exact Or.inl y
    · exact Or.inr ⟨k, ⟨_, hk, rfl⟩, y⟩
theorem run_spI {K : PySem.W.Frag} {R : List PyData → List (α × β) → Prop} {vs : List V} {H : Hp} {Q : VK} {E : XK} {Nm : List Str} {t : TS} (h : spI K ek ev R vs H Q E)
    (g : ∀ N ds m, R ds m → RetI ek ev ⟨K, H, N, fun _ => False, [], 0⟩ m (De Q) → Go ⟨K, H, N, fun _ => False, [], 0⟩ (env0 Nm.length ds) [] t (De Q)) : t (De Q) (L2.start Nm vs) H := by
  obtain ⟨N, ds, m, hN, hv, hR, hq⟩ := h
  exact g N ds m hR (fun p H2 ws hp e h1 h2 => hq p H2 ws hp (fun a o z => e a o z fun y => y) h1 h2) _ _ _ (ok_start hN hv)
/-! ### a walk over the keys -/
def EvW3 (c : Cn) (env : Sy) (os : List SO) (env2 : Sy) (os2 : List SO) (wi : TI) (n : Nat) (it : Nat → SV) (G : List SO → Prop) : Prop := ∀ ad σ H, Ok c ad env os σ H → ∀ R : It → Hp → Prop,
  (∀ J H1 fr, Ok (c.w fr os.length) ad env2 os2 σ H1 → (∀ ad' env' os' σ' H', Ok (c.w fr os.length) ad' env' os' σ' H' → Ok c ad' env' os' σ' H') → WalkD (c.w fr os.length) J n it G → R J H1) → wi σ H R
theorem set_at {γ : Type} {l : List γ} {i : Nat} {x : γ} (h : l[i]? = some x) : l.set i x = l := by
  obtain ⟨hl, e⟩ := List.getElem?_eq_some_iff.mp h
  rw [← e]
  exact List.set_getElem_self hl
/-- the keys of a dict of the store, which is data from then on -/
theorem ew_keysI {i k : Nat} (hi : env[i]? = some (some (.r k))) (hk : os[k]? = some (.dK (m.map fun p => (ek p.1, SV.i (ev p.2))))) : EvW3 c env os (env.set i (some (.i (dKd ek ev m)))) (os.set k .x) (iKeys (tFrz (tVar i))) m.length (itD (m.map fun p => kdat (ek p.1))) (fun _ => True) := fun ad σ H ok R q => by
  obtain ⟨v, hv, hr⟩ := ok.val i _ hi
  obtain ⟨rfl, _⟩ := (show v = .ref (ad k) ∧ k < os.length from hr)
  obtain ⟨_, ws, hws, pw⟩ := ok.obj k _ hk rfl
  have lk : Lv os k := ⟨_, hk, rfl⟩
  refine ⟨_, hv, ad k, _, rfl, hws, trivial, fun od => ⟨ad k, od, rfl, Or.inl ⟨ws, upd_same, ?_⟩⟩⟩
  have ok3 := ok.kill (u' := .frz od (.dK ws)) hk rfl
  have hN : ∀ a, Nof c ad (os.set k .x) a → Nof c ad os a ∧ a ≠ ad k := fun a h => by
    rcases h with h | ⟨j, l, e⟩
    · exact ⟨Or.inl h, fun z => ok.nn k lk (z ▸ h)⟩
    · obtain ⟨u, e1, hu⟩ := l
      by_cases q : k = j
      · subst q
        rw [List.getElem?_set_self (List.getElem?_eq_some_iff.mp hk).1] at e1
        cases e1; cases hu
      · rw [List.getElem?_set_ne q] at e1
        exact ⟨Or.inr ⟨j, ⟨u, e1, hu⟩, e⟩, fun z => q (ok.inj k j lk ⟨u, e1, hu⟩ (z.symm.trans e))⟩
  have hd : Dn c.K (Nof c ad (os.set k .x)) (upd H (ad k) (.frz od (.dK ws))) (.ref (ad k)) (dKd ek ev m) :=
    dK_dn (Or.inr ⟨od, upd_same⟩) (fun z => (hN _ z).2 rfl) (Paired.imp (pairK pw) fun x y z => ⟨z.1, (Dn.mut hws rfl (Or.inr ⟨k, lk, rfl⟩) z.2).sub fun a y => (hN a y).1⟩)
  have ok4 := ok3.set (i := i) (v := .ref (ad k)) (s := .i (dKd ek ev m)) hd
  rw [set_at hv] at ok4
  have hp := ok4.pin (v := .ref (ad k)) (s := .t (.frz od (.dK ws))) ⟨ad k, rfl, upd_same, rfl⟩
  have hu := up_pin (v := .ref (ad k)) (s := .t (.frz od (.dK ws))) ok4
  rw [List.length_set] at hp hu
  have len : ws.length = m.length := Paired.length (pairK pw)
  have at' : ∀ {ad' env' os' σ' H'}, Ok (c.w ((.ref (ad k), .t (.frz od (.dK ws))) :: c.fr) os.length) ad' env' os' σ' H' → H' (ad k) = some (.frz od (.dK ws)) := fun o => by
    obtain ⟨b, e1, e2, _⟩ := o.frm _ (List.mem_cons_self ..)
    cases e1
    exact e2
  refine q _ _ _ hp hu ⟨fun i ad env os σ H hi o _ => ⟨at' o, by rw [len]; exact hi⟩, fun ad env os σ H o _ => ⟨at' o, by rw [len]; exact Nat.le_refl _⟩, fun i ad env os σ H x H' hi o _ y => ?_⟩
  obtain ⟨rfl, kx, vx, h1, rfl⟩ := y
  refine ⟨Ex.refl _, ?_⟩
  obtain ⟨b, h3, h4, _⟩ := paired_getL (pairK pw) h1
  rw [itD_at (d := kdat (ek b.1)) (by rw [List.getElem?_map, h3]; rfl)]
  show Dn _ _ _ _ _
  have h4 : kx = ek b.1 := h4
  rw [← h4]
  exact key_dn kx
/-- a for, as gs_forP with the walk taking what it goes over -/
theorem gs_for3 {g : TG} {tb u : TS} {D : Ends} {wi : TI} {n : Nat} {it : Nat → SV} {G : List SO → Prop} {env2 : Sy} {os2 : List SO} (E : Nat → Sy) (O : Nat → List SO) (hw : EvW3 c env os env2 os2 wi n it G)
    (h0 : ∀ c' : Cn, c'.lo = os.length → ∀ ad σ H, Ok c' ad env2 os2 σ H → Ok c' ad (E 0) (O 0) σ H) (hG : ∀ i, i ≤ n → G (O i))
    (hs : ∀ fr, Up c (c.w fr os.length) → ∀ i, i < n → ∃ env' js, Tg (c.w fr os.length) (E i) (O i) g (it i) env' js ∧ Go (c.w fr os.length) env' (O i) tb { D with nx := OkE (c.w fr os.length) (E (i + 1)) (O (i + 1)), ct := OkE (c.w fr os.length) (E (i + 1)) (O (i + 1)), bk := u D })
    (hd : Go c (E n) (O n) u D) : Go c env os (tSeq (tFor wi g tb) u) D := fun ad σ H ok => by
  refine hw ad σ H ok _ fun J H1 fr ok1 up W => ?_
  refine ⟨fun i m σ H => m = n - i ∧ i ≤ n ∧ OkE (c.w fr os.length) (E i) (O i) σ H, ⟨n, by simp, Nat.zero_le _, ad, h0 _ rfl ad σ H1 ok1⟩, ?_⟩
  rintro i m σ H ⟨rfl, hi, ad', ok'⟩
  by_cases hlt : i < n
  · refine .inr ⟨W.goes i _ _ _ _ _ hlt ok' (hG i hi), OkE (c.w fr os.length) (E (i + 1)) (O (i + 1)), fun σ' H' p' => ⟨n - (i + 1), by omega, rfl, hlt, p'⟩, fun x H' y => ?_⟩
    obtain ⟨e2, r⟩ := W.yields i _ _ _ _ _ x H' hlt ok' (hG i hi) y
    obtain ⟨env', js, ht, hb⟩ := hs fr up i hlt
    exact ht ad' σ H' x (ok'.ext e2) r _ fun σ2 ok2 _ => hb ad' σ2 H' ok2
  · have q : i = n := by omega
    subst q
    exact .inl ⟨W.stops _ _ _ _ _ ok' (hG i hi), hd ad' σ H (up _ _ _ _ _ ok')⟩
end
end DL

set_option Elab.async false
set_option linter.all false
set_option maxRecDepth 100000
set_option maxHeartbeats 2000000
/-! The data layer: a state [numbers, number, number] of the caller that defs draw from and change. -/
namespace DL
open PySem PySem.Spec PyProof.Rows L2
open Evl (Ex Ex.refl Ex.trans Ex.new)
def Stt (H : Hp) (s b : Addr) : Prop := ∃ (ns : List Int) (a m : Int), H b = some (.lst (ns.map V.int)) ∧ H s = some (.lst [.ref b, .int a, .int m])
theorem Stt.ne {H : Hp} {s b : Addr} (h : Stt H s b) : s ≠ b := by
  obtain ⟨ns, a, m, h1, h2⟩ := h
  intro e
  subst e
  rw [h1] at h2
  cases ns with
  | nil => cases h2
  | cons n ns => cases h2
section
variable {w : Bool} {c : Cn} {env : Sy} {os : List SO} {te ta tb tl t1 t2 : TE} {tr : TA} {u : TS} {D : Ends} {P PA PB : PyData → Prop} {ad : Nat → Addr} {σ : L2.St} {H H' : Hp}
theorem Ok.chg {ks ki : Nat} (ok : Ok c ad env os σ H) (hs : os[ks]? = some (.stt ki)) (hb : os[ki]? = some .nums) (hch : ∀ a u, H a = some u → a ≠ ad ks → a ≠ ad ki → H' a = some u) (st : Stt H' (ad ks) (ad ki)) : Ok c ad env os σ H' := by
  have ls : Lv os ks := ⟨_, hs, rfl⟩
  have lb : Lv os ki := ⟨_, hb, rfl⟩
  have Ns : Nof c ad os (ad ks) := Or.inr ⟨ks, ls, rfl⟩
  have Nb : Nof c ad os (ad ki) := Or.inr ⟨ki, lb, rfl⟩
  obtain ⟨ms, us, es, ws⟩ : (c.H0 (ad ks) = none ∨ c.M (ad ks)) ∧ ∃ u, H (ad ks) = some u ∧ Wr u = true := ⟨(ok.obj ks _ hs rfl).1, (ok.obj ks _ hs rfl).2.some rfl⟩
  obtain ⟨mb, ub, eb, wb⟩ : (c.H0 (ad ki) = none ∨ c.M (ad ki)) ∧ ∃ u, H (ad ki) = some u ∧ Wr u = true := ⟨(ok.obj ki _ hb rfl).1, (ok.obj ki _ hb rfl).2.some rfl⟩
  have hnw : ∀ a x, H a = some x → Wr x = false → H' a = some x := fun a x e hw => hch a x e (fun z => by subst z; rw [es] at e; cases e; rw [ws] at hw; cases hw) (fun z => by subst z; rw [eb] at e; cases e; rw [wb] at hw; cases hw)
  have hout : ∀ a x, H a = some x → ¬ Nof c ad os a → H' a = some x := fun a x e n => hch a x e (fun z => n (z ▸ Ns)) (fun z => n (z ▸ Nb))
  have hrd : ∀ a x, Rd H a x → ¬ Nof c ad os a → Rd H' a x ∧ ¬ Nof c ad os a := fun a x r n => ⟨by
    rcases r with r | ⟨o, r⟩
    · exact Or.inl (hout a x r n)
    · exact Or.inr ⟨o, hout a _ r n⟩, n⟩
  have hsq : ∀ a xs, SqT c.K H a xs → SqT c.K H' a xs := fun a xs r => by
    rcases r with (r | ⟨o, r⟩) | r
    · exact Or.inl (Or.inl (hnw a _ r rfl))
    · exact Or.inl (Or.inr ⟨o, hnw a _ r rfl⟩)
    · exact Or.inr r
  have hv : ∀ n v s, SvOk c.K (Nof c ad os) ad n H v s → SvOk c.K (Nof c ad os) ad n H' v s := fun n v s h => by
    cases s with
    | i d => exact Dn.go hrd hout hsq d v h
    | t x => obtain ⟨b, e1, e2, e3⟩ := h; exact ⟨b, e1, hnw b _ e2 e3, e3⟩
    | ob C m => obtain ⟨a, dx, fs, e1, e2, e3, e4⟩ := h; exact ⟨a, dx, fs, e1, hout a _ e2 e3, e3, Paired.imp e4 fun _ _ z => ⟨z.1, Dn.go hrd hout hsq _ _ z.2⟩⟩
    | r k => exact h
  refine ⟨ok.len, fun a o h m => ?_, fun a h => ?_, fun i s h => ?_, fun k o h l => ?_, ok.inj, ok.nn, fun p hp => hv _ _ _ (ok.frm p hp), ok.low⟩
  · refine hch a o (ok.ex a o h m) (fun z => ?_) (fun z => ?_)
    · subst z
      rcases ms with z | z
      · rw [z] at h; cases h
      · exact m z
    · subst z
      rcases mb with z | z
      · rw [z] at h; cases h
      · exact m z
  · cases e : H a with
    | none => exact absurd e (ok.n0 a h)
    | some x =>
      rw [hch a x e (fun z => ok.nn ks ls (z ▸ h)) (fun z => ok.nn ki lb (z ▸ h))]
      exact fun z => nomatch z
  · obtain ⟨v, h1, h2⟩ := ok.val i s h
    exact ⟨v, h1, hv _ v s h2⟩
  · obtain ⟨ns, a, m, z1, z2⟩ := st
    by_cases q1 : k = ks
    · subst q1
      rw [hs] at h; cases h
      exact ⟨ms, _, a, m, z2, rfl, (List.getElem?_eq_some_iff.mp hb).1⟩
    · by_cases q2 : k = ki
      · subst q2
        rw [hb] at h; cases h
        exact ⟨mb, ns, z1⟩
      · obtain ⟨h1, h2⟩ := ok.obj k o h l
        exact ⟨h1, h2.map (hv _) fun x e => hch _ x e (fun z => q1 (ok.inj k ks ⟨o, h, l⟩ ls z)) (fun z => q2 (ok.inj k ki ⟨o, h, l⟩ lb z))⟩
/-- an object of the store is told otherwise -/
theorem Ok.reset {o o' : SO} {k : Nat} (ok : Ok c ad env os σ H) (h0 : os[k]? = some o) (l0 : o.live = true) (l : o'.live = true) (ho : SoOk c.K (Nof c ad os) ad os.length H (ad k) o') : Ok c ad env (os.set k o') σ H := by
  obtain ⟨x, e, _⟩ := (ok.obj k o h0 l0).2.some l0
  have hu : upd H (ad k) x = H := by
    funext a
    by_cases q : a = ad k
    · rw [q, upd_same, e]
    · rw [upd_ne q]
  have := ok.mut (u' := x) h0 l0 l (by rw [hu]; exact ho)
  rwa [hu] at this
/-! ### the promise -/
def spM (K : PySem.W.Frag) (R : List PyData → PyData → Prop) : Sp := fun vs H Q _ => ∃ (N : Addr → Prop) (s b : Addr) (rest : List V) (ds : List PyData), vs = .ref s :: rest ∧ Stt H s b ∧ ¬ N s ∧ ¬ N b ∧ (∀ a, N a → H a ≠ none) ∧ DnAll K (fun a => N a ∨ a = s ∨ a = b) H rest ds ∧ (∃ d, R ds d) ∧
  ∀ v H' d, R ds d → (∀ a x, H a = some x → a ≠ s → a ≠ b → H' a = some x) → Stt H' s b → Dn K (fun a => N a ∨ a = s ∨ a = b) H' v d → Q v H'
theorem spM_len {K : PySem.W.Frag} {R : List PyData → PyData → Prop} {n : Nat} (hR : ∀ ds d, R ds d → ds.length = n) : ∀ vs H Q E, spM K R vs H Q E → vs.length = n + 1 := fun vs H Q E ⟨N, s, b, rest, ds, e, _, _, _, _, h, ⟨d, r⟩, _⟩ => by rw [e, List.length_cons, h.length, hR ds d r]
/-- te gives data with P; the state may be drawn from -/
def EvM (c : Cn) (env : Sy) (os : List SO) (te : TE) (P : PyData → Prop) : Prop := ∀ ad σ H, Ok c ad env os σ H → ∀ Q : VK, (∀ v H2 d, P d → Ok c ad env os σ H2 → Dn c.K (Nof c ad os) H2 v d → Q v H2) → te σ H Q
def EvAM (c : Cn) (env : Sy) (os : List SO) (ta : TA) (P : List PyData → Prop) : Prop := ∀ ad σ H, Ok c ad env os σ H → ∀ Q : List V → Hp → Prop, (∀ vs H2 ds, P ds → Ok c ad env os σ H2 → DnAll c.K (Nof c ad os) H2 vs ds → Q vs H2) → ta σ H Q
theorem em_x {d : PyData} (h : EvX false c env os te d) (hP : P d) : EvM c env os te P := fun ad σ H ok Q q => h ad σ H ok Q fun v H2 e r => q v H2 d hP (ok.ext e) (by rw [Nw_false] at r; exact r)
theorem EvM.imp (h : EvM c env os te PA) (f : ∀ d, PA d → P d) : EvM c env os te P := fun ad σ H ok Q q => h ad σ H ok Q fun v H2 d p => q v H2 d (f d p)
theorem em_call {R : List PyData → PyData → Prop} {E : XK} {ks ki i : Nat} {ds : List PyData} (hi : env[i]? = some (some (.r ks))) (hs : os[ks]? = some (.stt ki)) (hb : os[ki]? = some .nums) (h : EvA false c env os tr ds) (hR : ∃ d, R ds d) : EvM c env os (tCall (spM c.K R) [] E (tCons (tVar i) tr)) (R ds) := fun ad σ H ok Q q => by
  obtain ⟨v, hv, hr⟩ := ok.val i _ hi
  obtain ⟨rfl, _⟩ := (show v = .ref (ad ks) ∧ ks < os.length from hr)
  refine ⟨_, hv, h ad σ H ok _ fun vs H2 e a => ?_⟩
  rw [Nw_false] at a
  have ok2 := ok.ext e
  have ls : Lv os ks := ⟨_, hs, rfl⟩
  have lb : Lv os ki := ⟨_, hb, rfl⟩
  obtain ⟨_, v2, x, m, e2, e3, _⟩ := ok2.obj ks _ hs rfl
  obtain ⟨_, ns, e4⟩ := ok2.obj ki _ hb rfl
  subst e3
  have hN : ∀ b, (Nof c ad os b ∧ b ≠ ad ks ∧ b ≠ ad ki) ∨ b = ad ks ∨ b = ad ki → Nof c ad os b := fun b z => by
    rcases z with z | z | z
    · exact z.1
    · rw [z]; exact Or.inr ⟨ks, ls, rfl⟩
    · rw [z]; exact Or.inr ⟨ki, lb, rfl⟩
  have hN2 : ∀ b, Nof c ad os b → (Nof c ad os b ∧ b ≠ ad ks ∧ b ≠ ad ki) ∨ b = ad ks ∨ b = ad ki := fun b z => by
    by_cases q1 : b = ad ks
    · exact Or.inr (Or.inl q1)
    · by_cases q2 : b = ad ki
      · exact Or.inr (Or.inr q2)
      · exact Or.inl ⟨z, q1, q2⟩
  refine ⟨fun b => Nof c ad os b ∧ b ≠ ad ks ∧ b ≠ ad ki, ad ks, ad ki, vs, ds, by simp, ⟨ns, x, m, e4, e2⟩, fun z => z.2.1 rfl, fun z => z.2.2 rfl, fun b z => ok2.nof z.1, a.sub hN, hR, fun v H' d hd hch st r => q v H' d hd (ok2.chg hs hb hch st) (r.sub hN2)⟩
/-! ### one thing behind the other -/
theorem ex_pin {v : V} {d : PyData} (h : (v, SV.i d) ∈ c.fr) : EvX w c env os (tC v) d := EvX.weak fun ad σ H ok Q q => q v H (Ex.refl H) (by
  rw [Nw_false]
  exact ok.frm _ h)
theorem em_op {r : R2} (ha : EvM c env os ta PA) (h : ∀ v d, PA d → EvM (c.w ((v, .i d) :: c.fr) os.length) env os (tOp r (tC v) tb) P) : EvM c env os (tOp r ta tb) P := fun ad σ H ok Q q =>
  ha ad σ H ok _ fun v H1 d p ok1 r1 => h v d p ad σ H1 (ok1.pin (s := .i d) r1) Q fun v2 H2 d2 p2 ok2 r2 => q v2 H2 d2 p2 (up_pin (v := v) (s := .i d) ok1 _ _ _ _ _ ok2) r2
theorem em_op2 {r : R2} {v0 : V} (hb : EvM c env os tb PB) (h : ∀ v d, PB d → EvM (c.w ((v, .i d) :: c.fr) os.length) env os (tOp r (tC v0) (tC v)) P) : EvM c env os (tOp r (tC v0) tb) P := fun ad σ H ok Q q =>
  hb ad σ H ok _ fun v H1 d p ok1 r1 => h v d p ad σ H1 (ok1.pin (s := .i d) r1) Q fun v2 H2 d2 p2 ok2 r2 => q v2 H2 d2 p2 (up_pin (v := v) (s := .i d) ok1 _ _ _ _ _ ok2) r2
theorem eam_a {ds : List PyData} {PP : List PyData → Prop} (h : EvA false c env os tr ds) (hP : PP ds) : EvAM c env os tr PP := fun ad σ H ok Q q => h ad σ H ok Q fun vs H2 e r => q vs H2 ds hP (ok.ext e) (by rw [Nw_false] at r; exact r)
theorem eam_cons {PP : List PyData → Prop} (h : EvM c env os te PA) (hr : ∀ v d, PA d → EvAM (c.w ((v, .i d) :: c.fr) os.length) env os tr (fun ds => PP (d :: ds))) : EvAM c env os (tCons te tr) PP := fun ad σ H ok Q q =>
  h ad σ H ok _ fun v H1 d p ok1 r1 => hr v d p ad σ H1 (ok1.pin (s := .i d) r1) _ fun vs H2 ds p2 ok2 r2 => q _ H2 (d :: ds) p2 (up_pin (v := v) (s := .i d) ok1 _ _ _ _ _ ok2) (.cons (ok2.frm (v, .i d) (List.mem_cons_self ..)) r2)
theorem em_lst {PP : List PyData → Prop} (h : EvAM c env os tr PP) (hl : ∀ ds, PP ds → ds.length ≤ 100000) : EvM c env os (tLst tr) (fun d => ∃ ds, d = .list ds ∧ PP ds) := fun ad σ H ok Q q =>
  h ad σ H ok _ fun vs H2 ds p ok2 r => ⟨Nat.le_trans (by rw [r.length]; exact hl ds p) (by decide), fun l hl => q _ _ (.list ds) ⟨ds, rfl, p⟩ (ok2.ext (Ex.new hl)) (.lst (Or.inl upd_same) (fun z => ok2.nof z hl) (r.ext (Ex.new hl)))⟩
theorem em_tup {PP : List PyData → Prop} (h : EvAM c env os tr PP) (hl : ∀ ds, PP ds → ds.length ≤ 100000) : EvM c env os (tTup tr) (fun d => ∃ ds, d = .tuple ds ∧ PP ds) := fun ad σ H ok Q q =>
  h ad σ H ok _ fun vs H2 ds p ok2 r => ⟨Nat.le_trans (by rw [r.length]; exact hl ds p) (by decide), fun l hl => q _ _ (.tuple ds) ⟨ds, rfl, p⟩ (ok2.ext (Ex.new hl)) (.tup (SqT.of upd_same) (r.ext (Ex.new hl)))⟩
/-- a call with one argument that draws -/
theorem em_call1 {R : List PyData → PyData → Prop} {E : XK} (h : EvM c env os te PA) (hR : ∀ d, PA d → ∃ e, R [d] e ∧ P e) : EvM c env os (tCall (spD c.K R) [] E (tCons te tNil)) P := fun ad σ H ok Q q =>
  h ad σ H ok _ fun v H1 d p ok1 r1 => by
    obtain ⟨e, h1, h2⟩ := hR d p
    show spD c.K R ([v] ++ []) H1 Q E
    rw [List.append_nil]
    exact ⟨Nof c ad os, [d], e, fun b z => ok1.nof z, .cons r1 .nil, h1, fun v' H' e' r => q v' H' e h2 (ok1.ext e') r⟩
/-! ### statements -/
theorem gs_asgM {i : Nat} (h : EvM c env os te P) (k : ∀ d, P d → Go c (env.set i (some (.i d))) os u D) : Go c env os (tSeq (tAsg te (gName i)) u) D := fun ad σ H ok =>
  h ad σ H ok _ fun v H2 d p ok2 r => k d p ad _ H2 (ok2.set (s := .i d) r)
def RetM (c : Cn) (R : List PyData → PyData → Prop) (ds : List PyData) (D : Ends) : Prop := ∀ ad env os σ v H2 d, Ok c ad env os σ H2 → os[0]? = some .nums → os[1]? = some (.stt 0) → R ds d → Dn c.K (Nof c ad os) H2 v d → D.rt v H2
theorem gs_retM {R : List PyData → PyData → Prop} {ds : List PyData} (h : EvM c env os te P) (k : RetM c R ds D) (h0 : os[0]? = some .nums) (h1 : os[1]? = some (.stt 0)) (hP : ∀ d, P d → R ds d) : Go c env os (tSeq (tRet te) u) D := fun ad σ H ok =>
  h ad σ H ok _ fun v H2 d p ok2 r => k ad env os σ v H2 d ok2 h0 h1 (hP d p) r
theorem RetM.up {R : List PyData → PyData → Prop} {ds : List PyData} {fr : List (V × SV)} {n : Nat} (k : RetM c R ds D) (up : Up c (c.w fr n)) : RetM (c.w fr n) R ds D := fun ad env os σ v H2 d ok h0 h1 hd r => k ad env os σ v H2 d (up _ _ _ _ _ ok) h0 h1 hd r
def env1 (n : Nat) (ds : List PyData) : Sy := some (.r 1) :: env0 (n - 1) ds
theorem ok_startM {K : PySem.W.Frag} {N : Addr → Prop} {s b : Addr} {vs : List V} {ds : List PyData} {Nm : List Str} (hN : ∀ a, N a → H a ≠ none) (st : Stt H s b) (hs : ¬ N s) (hb : ¬ N b) (h : DnAll K (fun a => N a ∨ a = s ∨ a = b) H vs ds) (hn : Nm ≠ []) :
    Ok ⟨K, H, N, fun a => a = s ∨ a = b, [(.ref s, .r 1), (.ref b, .r 0)], 2⟩ (fun k => if k = 0 then b else s) (env1 Nm.length ds) [.nums, .stt 0] (L2.start Nm (.ref s :: vs)) H := by
  have ne := st.ne
  obtain ⟨ns, a, m, e1, e2⟩ := st
  have lv : ∀ k, Lv [SO.nums, SO.stt 0] k → k = 0 ∨ k = 1 := fun k ⟨o, e, _⟩ => by
    have := (List.getElem?_eq_some_iff.mp e).1
    simp at this; omega
  have hN2 : ∀ x, Nof ⟨K, H, N, fun a => a = s ∨ a = b, [(.ref s, .r 1), (.ref b, .r 0)], 2⟩ (fun k => if k = 0 then b else s) [.nums, .stt 0] x → N x ∨ x = s ∨ x = b := fun x z => by
    rcases z with z | ⟨k, l, z⟩
    · exact Or.inl z
    · rcases lv k l with q | q
      · subst q; exact Or.inr (Or.inr z)
      · subst q; exact Or.inr (Or.inl z)
  have hl : 0 < Nm.length := List.length_pos_iff.mpr hn
  have hlen := h.length
  refine ⟨?_, fun a o e _ => e, hN, fun i t e => ?_, fun k o e l => ?_, fun k j hk hj q => ?_, fun k hk => ?_, fun p hp => ?_, Nat.le_refl _⟩
  · unfold L2.start env1 env0; simp [hlen]; omega
  · unfold env1 at e
    cases i with
    | zero =>
      simp at e
      subst e
      exact ⟨.ref s, by simp [L2.start], rfl, by simp⟩
    | succ i =>
      rw [List.getElem?_cons_succ] at e
      unfold env0 at e
      by_cases hi : i < ds.length
      · rw [List.getElem?_append_left (by simpa using hi), List.getElem?_map] at e
        cases hd : ds[i]? with
        | none => rw [hd] at e; cases e
        | some d =>
          rw [hd] at e
          cases e
          obtain ⟨v, h1, h2⟩ := h.get hd
          refine ⟨v, ?_, Dn.sub hN2 h2⟩
          unfold L2.start
          rw [List.getElem?_append_left (by simp [hlen]; omega), List.getElem?_map, List.getElem?_cons_succ, h1]
          rfl
      · rw [List.getElem?_append_right (by simpa using hi)] at e
        rw [List.getElem?_replicate] at e
        split at e <;> cases e
  · rcases lv k ⟨o, e, l⟩ with q | q
    · subst q
      cases e
      exact ⟨Or.inr (Or.inr rfl), ns, e1⟩
    · subst q
      cases e
      exact ⟨Or.inr (Or.inl rfl), .ref b, a, m, e2, rfl, by simp⟩
  · rcases lv k hk with q1 | q1 <;> rcases lv j hj with q2 | q2 <;> subst q1 q2
    · rfl
    · exact absurd q.symm ne
    · exact absurd q ne
    · rfl
  · rcases lv k hk with q | q <;> subst q
    · exact hb
    · exact hs
  · rcases List.mem_cons.mp hp with z | z
    · subst z; exact ⟨rfl, Nat.lt_succ_self 1⟩
    · rw [List.mem_singleton.mp z]; exact ⟨rfl, Nat.succ_pos 1⟩
theorem run_spM {K : PySem.W.Frag} {R : List PyData → PyData → Prop} {vs : List V} {Q : VK} {E : XK} {Nm : List Str} {t : TS} (h : spM K R vs H Q E) (hn : Nm ≠ [])
    (g : ∀ (N : Addr → Prop) (s b : Addr) ds, (∃ d, R ds d) → RetM ⟨K, H, N, fun a => a = s ∨ a = b, [(.ref s, .r 1), (.ref b, .r 0)], 2⟩ R ds (De Q) → Go ⟨K, H, N, fun a => a = s ∨ a = b, [(.ref s, .r 1), (.ref b, .r 0)], 2⟩ (env1 Nm.length ds) [.nums, .stt 0] t (De Q)) : t (De Q) (L2.start Nm vs) H := by
  obtain ⟨N, s, b, rest, ds, rfl, st, hs, hb, hN, ha, hR, hq⟩ := h
  refine g N s b ds hR (fun ad env os σ v H2 d ok h0 h1 hd r => ?_) _ _ _ (ok_startM hN st hs hb ha hn)
  obtain ⟨f1, _⟩ := (show V.ref s = .ref (ad 1) ∧ _ from ok.frm (.ref s, .r 1) (List.mem_cons_self ..))
  obtain ⟨f0, _⟩ := (show V.ref b = .ref (ad 0) ∧ _ from ok.frm (.ref b, .r 0) (List.mem_cons_of_mem _ (List.mem_cons_self ..)))
  have f1 := V.ref.inj f1
  have f0 := V.ref.inj f0
  obtain ⟨_, ns, e0⟩ := ok.obj 0 _ h0 rfl
  obtain ⟨_, v2, a, m, e1, e2, _⟩ := ok.obj 1 _ h1 rfl
  subst e2
  refine hq v H2 d hd (fun x o e n1 n2 => ok.ex x o e fun z => z.elim n1 n2) ⟨ns, a, m, by rw [f0]; exact e0, by rw [f1, f0]; exact e1⟩ (r.sub fun x z => ?_)
  rcases z with z | z | z
  · exact Or.inl z
  · rw [z, f1]; exact Or.inr ⟨1, ⟨_, h1, rfl⟩, rfl⟩
  · rw [z, f0]; exact Or.inr ⟨0, ⟨_, h0, rfl⟩, rfl⟩
/-- the state is looked into -/
theorem gs_open01 (k : ∀ (ns : List Int) (a m : Int), Go c env [.lst ((ns.map PyData.int).map SV.i), .lst [.r 0, .i (.int a), .i (.int m)]] u D) : Go c env [.nums, .stt 0] u D := fun ad σ H ok => by
  obtain ⟨_, ns, e0⟩ := ok.obj 0 _ rfl rfl
  obtain ⟨_, v2, a, m, e1, e2⟩ := ok.obj 1 _ rfl rfl
  have ok1 := ok.reset (k := 0) (o' := .lst ((ns.map PyData.int).map SV.i)) rfl rfl rfl ⟨_, e0, dn_paired (ints_dn ns)⟩
  have ok2 := ok1.reset (k := 1) (o' := .lst [.r 0, .i (.int a), .i (.int m)]) rfl rfl rfl ⟨_, e1, .cons e2 (.cons (Dn.int a) (.cons (Dn.int m) .nil))⟩
  exact k ns a m ad σ H ok2
theorem gs_close01 {ns : List Int} {a m : Int} (k : Go c env [.nums, .stt 0] u D) : Go c env [.lst ((ns.map PyData.int).map SV.i), .lst [.r 0, .i (.int a), .i (.int m)]] u D := fun ad σ H ok => by
  obtain ⟨_, vs, e0, p0⟩ := ok.obj 0 _ rfl rfl
  obtain ⟨_, ws, e1, p1⟩ := ok.obj 1 _ rfl rfl
  have ev : vs = ns.map V.int := (paired_dn p0).ints
  have ok1 := ok.reset (k := 0) (o' := .nums) rfl rfl rfl ⟨ns, by rw [← ev]; exact e0⟩
  refine k ad σ H (ok1.reset (k := 1) (o' := .stt 0) rfl rfl rfl ?_)
  cases p1 with
  | cons q1 p1 =>
    cases p1 with
    | cons q2 p1 =>
      cases p1 with
      | cons q3 p1 =>
        cases p1
        cases (show Dn _ _ _ _ _ from q2)
        cases (show Dn _ _ _ _ _ from q3)
        exact ⟨_, a, m, e1, q1⟩
theorem er_ixO {k j : Nat} {ss : List SV} {i : Int} (hl : EvR c env os ta k) (hk : os[k]? = some (.lst ss)) (hi : EvX true c env os tb (.int i)) (hd : atI ss i = some (.r j)) (hj : j < os.length) : EvR c env os (tOp (rIxL c.K) ta tb) j := ⟨hj, fun ad σ H ok Q q =>
  hl.2 ad σ H ok _ fun H1 e1 => hi ad σ H1 (ok.ext e1) _ fun y H2 e2 r2 => by
    cases dn_int r2
    obtain ⟨_, vs, h1, h2⟩ := ((ok.ext e1).ext e2).obj k _ hk rfl
    obtain ⟨v, h3, h4⟩ := paired_at h2 hd
    obtain ⟨rfl, _⟩ := (show v = .ref (ad j) ∧ _ from h4)
    exact ⟨ad k, vs, i, _, rfl, rfl, SqL.of h1, h3, q H2 (e1.trans e2)⟩⟩
/-- x = xs.pop(0) -/
theorem gs_asgPop0 {i k : Nat} {d : PyData} {ss : List SV} (hl : EvR c env os tl k) (hk : os[k]? = some (.lst (.i d :: ss))) (h0 : EvX true c env os te (.int 0)) (g : Go c (env.set i (some (.i d))) (os.set k (.lst ss)) u D) : Go c env os (tSeq (tAsg (tBM c.K "list" rPopAt tl (tCons te tNil)) (gName i)) u) D := fun ad σ H ok =>
  hl.2 ad σ H ok _ fun H1 e1 => by
    obtain ⟨_, vs1, hvs1, _⟩ := (ok.ext e1).obj k _ hk rfl
    refine ⟨Or.inl ⟨rfl, vs1, SqL.of hvs1⟩, h0 ad σ H1 (ok.ext e1) _ fun v2 H2 e2 r2 => ?_⟩
    cases dn_int r2
    have ok2 := (ok.ext e1).ext e2
    obtain ⟨_, vs, hvs, pv⟩ := ok2.obj k _ hk rfl
    have hN : Nof c ad os (ad k) := Or.inr ⟨k, ⟨_, hk, rfl⟩, rfl⟩
    cases pv with
    | cons q1 pv =>
      rename_i y ys
      refine ⟨ad k, _, 0, 0, y, rfl, rfl, hvs, by decide, by decide, by simp [seqIndex?], rfl, ?_⟩
      have ok3 := ok2.mut (u' := .lst ys) hk rfl (o' := .lst ss) rfl ⟨ys, upd_same, Paired.imp pv fun _ _ z => z.mut hvs rfl hN⟩
      refine g ad _ _ (ok3.set (s := .i d) ?_)
      rw [Nof_set hk rfl rfl]
      exact Dn.mut hvs rfl hN q1
/-- state = [list(..), a, m] -/
theorem gs_asgSt {i : Nat} {ns : List Int} {a m : Int} (hl : EvF c env os tl (.lst ((ns.map PyData.int).map SV.i))) (h1 : EvX true c env os t1 (.int a)) (h2 : EvX true c env os t2 (.int m)) (g : Go c (env.set i (some (.r (os.length + 1)))) (os ++ [.nums] ++ [.stt os.length]) u D) :
    Go c env os (tSeq (tAsg (tLst (tCons tl (tCons t1 (tCons t2 tNil)))) (gName i)) u) D := fun ad σ H ok =>
  hl ad σ H ok _ fun p H1 hp e1 r => h1 ad σ H1 (ok.ext e1) _ fun v1 H2 e2 r1 => h2 ad σ H2 ((ok.ext e1).ext e2) _ fun v2 H3 e3 r2 => by
    have fresh : ∀ (ad' : Nat → Addr) (env' : Sy) (os' : List SO) (q : Addr) (σ' : L2.St) (H' : Hp), Ok c ad' env' os' σ' H' → H' q = none → c.H0 q = none ∨ c.M q := fun ad' env' os' q σ' H' ok hq => by
      by_cases hm : c.M q
      · exact Or.inr hm
      · refine Or.inl ?_
        cases hz : c.H0 q with
        | none => rfl
        | some o => rw [ok.ex q o hz hm] at hq; cases hq
    obtain ⟨vs, e0, p0⟩ := r
    have ev : vs = ns.map V.int := (paired_dn p0).ints
    have ok1 := ok.new (o := .nums) hp e1 (fresh _ _ _ _ _ _ ok hp) ⟨ns, by rw [← ev]; exact e0⟩
    have ok3 := (ok1.ext e2).ext e3
    cases dn_int r1
    cases dn_int r2
    refine ⟨Nat.le_of_ble_eq_true rfl, fun q hq => ?_⟩
    have ok4 := ok3.new (o := .stt os.length) hq (Ex.new hq) (fresh _ _ _ _ _ _ ok3 hq) ⟨.ref p, a, m, upd_same, by rw [adN_same], by simp⟩
    refine g _ _ _ (ok4.set (v := .ref q) (s := .r (os.length + 1)) ⟨?_, by simp⟩)
    have : (os ++ [SO.nums]).length = os.length + 1 := by simp
    rw [← this, adN_same]
end
end DL

set_option Elab.async false
set_option linter.all false
set_option maxRecDepth 100000
set_option maxHeartbeats 2000000
/-! The data layer: a dict of the module with text keys. -/
namespace DL
open PySem PySem.Spec PyProof.Rows L2
open Evl (Ex Ex.refl Ex.trans Ex.new)
/-! ### what is looked at -/
mutual
def datB (K : PySem.W.Frag) : PyData → Value → Bool
  | .int i, .int j _ => decide (i = j)
  | .bool b, .bool c => b == c
  | .str x, .str y _ => decide (x = y)
  | .tuple ds, .ref a => match K.lookup a with
    | some ⟨.type c, _, .seq its _, _⟩ => decide (c = "tuple") && (decide (its.size ≤ sizeLine) && datsB K ds its.toList)
    | _ => false
  | _, _ => false
def datsB (K : PySem.W.Frag) : List PyData → List Value → Bool
  | [], [] => true
  | d :: ds, v :: vs => datB K d v && datsB K ds vs
  | _, _ => false
end
mutual
theorem datB_ok {K : PySem.W.Frag} : ∀ (d : PyData) (u : Value), datB K d u = true → ∃ v, RelV v u ∧ ∀ N H, Dn K N H v d
  | .none, u, h => by unfold datB at h; cases u <;> cases h
  | .list _, u, h => by unfold datB at h; cases u <;> cases h
  | .dict _, u, h => by unfold datB at h; cases u <;> cases h
  | .int i, u, h => by
    cases u <;> unfold datB at h <;> first | cases h | skip
    exact ⟨.int i, ⟨_, by rw [of_decide_eq_true h]⟩, fun N H => .int i⟩
  | .bool b, u, h => by
    cases u <;> unfold datB at h <;> first | cases h | skip
    exact ⟨.bl b, by rw [beq_iff_eq.mp h]; rfl, fun N H => .bl b⟩
  | .str x, u, h => by
    cases u <;> unfold datB at h <;> first | cases h | skip
    exact ⟨.str x, ⟨_, by rw [of_decide_eq_true h]⟩, fun N H => .str x⟩
  | .tuple ds, u, h => by
    cases u with
    | ref a =>
      unfold datB at h
      cases q : K.lookup a with
      | none => rw [q] at h; cases h
      | some o =>
        obtain ⟨oc, od, dt, osl⟩ := o
        rw [q] at h
        cases oc with
        | type c =>
          cases dt with
          | seq its n =>
            have h1 : (decide (c = "tuple") && (decide (its.size ≤ sizeLine) && datsB K ds its.toList)) = true := h
            rw [Bool.and_eq_true, Bool.and_eq_true] at h1
            obtain ⟨h2, h3, h4⟩ := h1
            obtain ⟨vs, h5, h6⟩ := datsB_ok ds its.toList h4
            exact ⟨.ref a, rfl, fun N H => .tup (.inr ⟨_, its, n, q, congrArg Value.type (of_decide_eq_true h2), rfl, of_decide_eq_true h3, h5⟩) (h6 N H)⟩
          | _ => cases h
        | _ => cases dt <;> cases h
    | _ => unfold datB at h; cases h
theorem datsB_ok {K : PySem.W.Frag} : ∀ (ds : List PyData) (us : List Value), datsB K ds us = true → ∃ vs, Vals vs us ∧ ∀ N H, DnAll K N H vs ds
  | [], [], _ => ⟨[], .nil, fun _ _ => .nil⟩
  | [], _ :: _, h => by unfold datsB at h; cases h
  | _ :: _, [], h => by unfold datsB at h; cases h
  | d :: ds, u :: us, h => by
    unfold datsB at h
    rw [Bool.and_eq_true] at h
    obtain ⟨v, h1, h2⟩ := datB_ok d u h.1
    obtain ⟨vs, h3, h4⟩ := datsB_ok ds us h.2
    exact ⟨v :: vs, .cons h1 h3, fun N H => .cons (h2 N H) (h4 N H)⟩
end
def kdB (K : PySem.W.Frag) (a : Addr) (m : List (Str × PyData)) : Bool := m.all fun p => match PySem.W.nsIn K a p.1 with
  | some (some u) => datB K p.2 u
  | _ => false
/-- the dict m stands at a -/
structure KdOk (K : PySem.W.Frag) (w : World) (a : Addr) (m : List (Str × PyData)) : Prop where
  get : ∀ p ∈ m, ∃ v, KDct K w a p.1 v ∧ ∀ N H, Dn K N H v p.2
  keys : He.dicW K a = some (He.keysIn w.params (m.map (·.1)))
theorem kdOk_of {K : PySem.W.Frag} {w : World} {a : Addr} {m : List (Str × PyData)} (h1 : kdB K a m = true) (h2 : He.dicW K a = some (He.keysIn w.params (m.map (·.1)))) : KdOk K w a m := by
  refine ⟨fun p hp => ?_, h2⟩
  obtain ⟨es, n, D⟩ := He.dicW_ok h2
  have h3 := List.all_eq_true.mp h1 p hp
  cases q : PySem.W.nsIn K a p.1 with
  | none => rw [q] at h3; cases h3
  | some r =>
    cases r with
    | none => rw [q] at h3; cases h3
    | some u =>
      rw [q] at h3
      obtain ⟨v, h4, h5⟩ := datB_ok p.2 u h3
      exact ⟨v, ⟨es, n, u, D.at_, D.lit, q, h4⟩, h5⟩
/-! ### rules -/
section
variable {w : Bool} {c : Cn} {env : Sy} {os : List SO} {te ta tb : TE}
theorem ex_kdget {W : World} {a : Addr} {m : List (Str × PyData)} {x : Str} {d : PyData} (hk : KdOk c.K W a m) (hm : (x, d) ∈ m) (hb : EvX true c env os tb (.str x)) : EvX w c env os (tOp (rIxD c.K W) (tC (.ref a)) tb) d := fun ad σ H ok Q q =>
  hb ad σ H ok _ fun v H2 e r => by
    obtain ⟨u, h1, h2⟩ := hk.get _ hm
    cases dn_str r
    exact ⟨a, x, u, rfl, rfl, h1, q u H2 e (h2 _ _)⟩
end
/-- sorted(d) of such a dict -/
def rSortKd (K : PySem.W.Frag) (W : World) : List V → Hp → VK → Prop := fun vs H Q => ∃ (a : Addr) (ks : List Str), vs = [V.ref a] ∧ He.dicW K a = some (He.keysIn W.params ks) ∧ ks.length ≤ 1000 ∧ ∀ p, H p = none → Q (.ref p) (upd H p (.lst ((ks.mergeSort (PySem.W.dataLe false PyData.str)).map V.str)))
theorem each_of {R : Value → Str → Prop} : ∀ {l : List Value} {m : List Str}, l.length = m.length → (∀ (j : Nat) (v : Value) (x : Str), l[j]? = some v → m[j]? = some x → R v x) → PySem.W.EachIs R l m
  | [], [], _, _ => .nil
  | [], _ :: _, h, _ => by simp at h
  | _ :: _, [], h, _ => by simp at h
  | v :: l, x :: m, h, f => .cons (f 0 v x rfl rfl) (each_of (by simpa using h) fun j v x h1 h2 => f (j + 1) v x (by simpa using h1) (by simpa using h2))
theorem each_str : ∀ {l : List Value} {m : List Str}, PySem.W.EachIs (fun v x => ∃ t, v = Value.str x t) l m → Vals (m.map V.str) l
  | _, _, .nil => .nil
  | _, _, .cons r t => .cons r (each_str t)
theorem cr_sortKd {X : Cx} (hc : X.calm = true) (hu : X.A.units + 64 < cLine) : CallR X (.builtin "sorted") (rSortKd X.K X.w) := by
  intro pins s σ H vs us Q I r h
  obtain ⟨a, ks, rfl, hd, hkl, q⟩ := h
  rw [Vals.ref1 r]
  obtain ⟨es, n, D⟩ := He.dicW_ok hd
  have hk : es.toList.map He.keyOf = He.keysIn X.w.params ks := by
    unfold He.dicW at hd
    rw [D.at_] at hd
    have h1 : (match decide (("dict" : String) = "dict") && ((#[] : Array Value).isEmpty && !(a == sysModules)) with
      | true => some (es.toList.map He.keyOf)
      | false => none) = some (He.keysIn X.w.params ks) := hd
    rw [D.low] at h1
    exact Option.some.inj h1
  have hes : es.size = ks.length := by
    have := congrArg List.length hk
    simpa [He.keysIn] using this
  have raw : s.heap.DictRaw a es n := ⟨_, I.kIn _ _ D.at_, ⟨rfl, rfl, rfl⟩, rfl⟩
  have big : (1000 : Nat) ≤ sizeLine := by decide
  have lim : es.size ≤ sizeLine := by omega
  refine Calls.call_function_entry kind_sorted plain_sorted entry_sorted (args_sorted1 _) ?_
  unfold Builtin.«sorted»
  refine wpAny_bind (m := checkCount "sorted" 1 1 _) (wpAny_pure ?_)
  refine wpAny_bind (PySem.W.kdu_collect (A := X.A.in1) (PySem.KdlSrc.rawDict (es := es) (ep := n) D.low) (I.ok.hd hc) raw lim fun h1 tk acc keep hacc => ?_)
  have lenA : acc.toList.length = ks.length := by rw [Array.length_toList, hacc.1, hes]
  have each : PySem.W.EachIs (fun v x => ∃ t, v = Value.str x t) acc.toList ks := each_of lenA fun j v x e1 e2 => by
    obtain ⟨hi, e3⟩ := hacc.2 j v (by rw [← Array.getElem?_toList]; exact e1)
    have e4 : (es.toList.map He.keyOf)[j]? = (He.keysIn X.w.params ks)[j]? := by rw [hk]
    rw [List.getElem?_map, Array.getElem?_toList, Array.getElem?_eq_getElem hi] at e4
    unfold He.keysIn at e4
    rw [List.getElem?_map, e2] at e4
    have e5 : He.keyOf es[j] = some (x, PyData.keyHash X.w.params x) := Option.some.inj e4
    unfold He.keyOf at e5
    split at e5
    · rename_i y t hy
      have e6 := (Prod.mk.inj (Option.some.inj e5)).1
      exact ⟨t, by rw [e3, hy, e6]⟩
    · cases e5
  have I1 : Inv X pins σ H { s with heap := h1, toks := tk } := I.kept keep
  have limA : acc.toList.length ≤ sizeLine := by rw [lenA]; omega
  refine wpAny_bind (wpAny_newList ?_ limA)
  have at0 : (h1.push (seqObj "list" acc.toList.toArray 0)).get? h1.objs.size = some (seqObj "list" acc.toList.toArray 0) := Heap.get?_push_size _ rfl
  show wpAny _ _ _ _ _ { s with heap := h1.push (seqObj "list" acc.toList.toArray 0), toks := tk }
  have er : ∀ {l : List Value} {m : List Str} {hh : Heap} {b : Addr}, PySem.W.EachIs (fun v x => ∃ t, v = Value.str x t) l m → PySem.W.EachIs (fun v x => ∃ as, Reads hh v (PyData.str x) as ∧ b ∉ as) l m := by
    intro l m hh b h
    induction h with
    | nil => exact .nil
    | cons r t ih => obtain ⟨t, rfl⟩ := r; exact .cons ⟨[], .str _ _, by simp⟩ ih
  refine wpAny_bind (wpAny_holding (PySem.W.list_sort_data (s := { s with heap := h1.push (seqObj "list" acc.toList.toArray 0), toks := tk }) (R := fun v x => ∃ t, v = Value.str x t) (bs := ks) (enc := PyData.str) at0 each (er each)
    (fun d hd d' hd' => by
      obtain ⟨x, _, rfl⟩ := List.mem_map.mp hd
      obtain ⟨y, _, rfl⟩ := List.mem_map.mp hd'
      rfl) (Or.inr fun d hd => by
      obtain ⟨x, _, rfl⟩ := List.mem_map.mp hd
      exact ⟨(fun z => by cases z), fun xs z => (by cases z)⟩) (by omega) (fun b hb => ?_) fun out lo eo => ?_))
  · have hu1 : X.A.in1.units ≤ X.A.units + 1 := Nat.le_refl _
    have : (PyData.str b).depth = 0 := rfl
    omega
  · obtain ⟨ep2, at2⟩ := sortedHeap_at (vs := acc.toList) (out := out.toArray) at0
    have lenR : ((ks.mergeSort (PySem.W.dataLe false PyData.str)).map V.str).length ≤ sizeLine := by
      rw [List.length_map, (List.mergeSort_perm _ _).length_eq]
      omega
    refine wpAny_pure ⟨_, rfl, .ref h1.objs.size, upd H h1.objs.size (.lst ((ks.mergeSort (PySem.W.dataLe false PyData.str)).map V.str)), I1.laid (t' := tk) (fun b u e => ?_) (Nat.le_refl _)
      (show ObjOk X.prog X.w _ _ _ (.lst _) from ⟨lenR, out, ep2, each_str eo, at2⟩), rfl, q _ (I1.hok.fresh (Nat.le_refl _))⟩
    have lt : b < h1.objs.size := Heap.lt_size e
    rw [sortedHeap_old (Nat.ne_of_lt lt) (by rw [size_push']; exact Nat.lt_succ_of_lt lt)]
    exact Heap.get?_push_of_some _ e
theorem ef_sortKd {c : Cn} {env : Sy} {os : List SO} {W : World} {a : Addr} {m : List (Str × PyData)} (hk : KdOk c.K W a m) (hl : m.length ≤ 1000) : EvF c env os (tCB (rSortKd c.K W) (tCons (tC (.ref a)) tNil)) (.lst ((((m.map (·.1)).mergeSort (PySem.W.dataLe false PyData.str)).map PyData.str).map SV.i)) := fun ad σ H ok Q q => by
  refine ⟨a, m.map (·.1), rfl, hk.keys, by simpa using hl, fun p hp => q p _ hp (Ex.new hp) ⟨_, upd_same, ?_⟩⟩
  generalize (m.map (·.1)).mergeSort (PySem.W.dataLe false PyData.str) = l
  refine dn_paired ?_
  generalize upd H p (HO.lst (l.map V.str)) = H2
  induction l with
  | nil => exact .nil
  | cons x l ih => exact .cons (.str x) ih
/-! ### written dicts with lists -/
section
variable {w : Bool} {c : Cn} {env : Sy} {os : List SO} {te ta tb td ty tx : TE} {d : PyData}
def EvP2 (c : Cn) (env : Sy) (os : List SO) (trs : List (TE × TE)) (kvs : List (Key × PyData)) : Prop := ∀ ad σ H, Ok c ad env os σ H → ∀ Q : List (V × V) → Hp → Prop,
  (∀ (vs : List (Key × V)) H2, Ex H H2 → Paired (fun (x : Key × V) (y : Key × PyData) => x.1 = y.1 ∧ Dn c.K (Nof c ad os) H2 x.2 y.2) vs kvs → Q (vs.map fun kv => (kV kv.1, kv.2)) H2) → tPairs trs σ H Q
theorem ep2_nil : EvP2 c env os [] [] := fun ad σ H ok Q q => q [] H (Ex.refl H) .nil
theorem ep2_cons {trs : List (TE × TE)} {kvs : List (Key × PyData)} {kk : Key} (hk : EvX true c env os ta (kdat kk)) (hv : EvX false c env os tb d) (hr : EvP2 c env os trs kvs) : EvP2 c env os ((ta, tb) :: trs) ((kk, d) :: kvs) := fun ad σ H ok Q q =>
  hk ad σ H ok _ fun v H1 e1 r1 => hv ad σ H1 (ok.ext e1) _ fun u H2 e2 r2 => hr ad σ H2 ((ok.ext e1).ext e2) _ fun vs H3 e3 p => by
    rw [Nw_false] at r2
    have := q ((kk, u) :: vs) H3 ((e1.trans e2).trans e3) (.cons ⟨rfl, r2.ext e3⟩ p)
    rw [List.map_cons] at this
    rw [dn_key r1]
    exact this
theorem ef_dispL {trs : List (TE × TE)} {kvs : List (Key × PyData)} (h : EvP2 c env (os ++ [.dK []]) trs kvs) (hn : (kvs.map (·.1)).Nodup) (hl : kvs.length ≤ 15) : EvF c env os (tDisp trs) (.dK (kvs.map fun q => (q.1, SV.i q.2))) := fun ad σ H ok Q q p hp => by
  have h0 : c.H0 p = none ∨ c.M p := by
    by_cases hm : c.M p
    · exact Or.inr hm
    · refine Or.inl ?_
      cases hz : c.H0 p with
      | none => rfl
      | some o => rw [ok.ex p o hz hm] at hp; cases hp
  have ok1 := ok.new (o := .dK []) hp (Ex.new hp) h0 ⟨[], upd_same, .nil⟩
  refine h _ σ _ ok1 _ fun vs H2 e pv => ?_
  have hp2 : H2 p = some (.dK []) := e _ _ upd_same
  have hkeys : vs.map (·.1) = kvs.map (·.1) := by
    clear h hn hl q
    induction pv with
    | nil => rfl
    | cons r t ih => rw [List.map_cons, List.map_cons, r.1, ih]
  refine ⟨hp2, vs, rfl, by have := congrArg List.length hkeys; simp at this; omega, ?_⟩
  rw [mergeK_app vs [] (by simpa [hkeys] using hn), List.nil_append]
  have hin : ∀ a, (Nof c ad os a ∨ a = p) → Nof c (adN ad os.length p) (os ++ [.dK []]) a := fun a z => by
    rcases z with z | z
    · rcases z with z | ⟨k, ⟨o, e1, l⟩, z⟩
      · exact Or.inl z
      · have hk := (List.getElem?_eq_some_iff.mp e1).1
        exact Or.inr ⟨k, ⟨o, by rw [List.getElem?_append_left hk]; exact e1, l⟩, by rw [adN_ne (by omega)]; exact z⟩
    · exact Or.inr ⟨os.length, ⟨.dK [], by simp, rfl⟩, by rw [adN_same]; exact z⟩
  refine q p _ hp (fun a o ha => ?_) ⟨vs, upd_same, ?_⟩
  · rw [upd_ne (ne_of_none ha hp)]
    exact e a o (by rw [upd_ne (ne_of_none ha hp)]; exact ha)
  · have mutd : ∀ (v : V) (d : PyData), Dn c.K (Nof c (adN ad os.length p) (os ++ [.dK []])) H2 v d → Dn c.K (fun a => Nof c ad os a ∨ a = p) (upd H2 p (.dK vs)) v d := fun v d r => (r.mut hp2 rfl (hin p (Or.inr rfl))).sub hin
    clear hkeys h hn hl q e
    generalize upd H2 p (HO.dK vs) = H3 at mutd
    induction pv with
    | nil => exact .nil
    | cons r t ih => exact .cons ⟨r.1, mutd _ _ r.2⟩ (ih)
theorem ex_dget2D {α β : Type} [DecidableEq α] {ek : α → Key} {ev : β → PyData} {m : List (α × β)} {a : α} {d2 : PyData} (hi : ∀ a b, ek a = ek b → a = b) (hd : EvX w c env os td (dKd ek ev m)) (hk : EvX true c env os ty (kdat (ek a))) (hx : EvX w c env os tx d2) (hg : ((getA m a).map ev).getD d2 = d) : EvX w c env os (tDGet2 td ty tx) d := fun ad σ H ok Q q =>
  hd ad σ H ok _ fun v H1 e1 r1 => by
    obtain ⟨p, ws1, rfl, hp1, _, _⟩ := dn_dK r1
    refine ⟨p, rfl, Or.inl ⟨ws1, hp1⟩, hk ad σ H1 (ok.ext e1) _ fun y H2 e2 r2 => hx ad σ H2 ((ok.ext e1).ext e2) _ fun z H3 e3 r3 => ?_⟩
    obtain ⟨p', ws, ep, hp, _, pw⟩ := dn_dK ((r1.ext e2).ext e3)
    cases ep
    refine ⟨_, by rw [dn_key r2]; exact DGet.rk hp, ?_⟩
    rcases val_dK (F := fun v b => Dn c.K (Nw w c ad os) H3 v (ev b)) hi pw a with ⟨x, y⟩ | ⟨v, b, x, y, f⟩
    · rw [x]
      rw [y] at hg
      cases hg
      exact q z H3 ((e1.trans e2).trans e3) r3
    · rw [x]
      rw [y] at hg
      cases hg
      exact q v H3 ((e1.trans e2).trans e3) f
theorem ex_isnotB {r : R2} {a b : Bool} (hr : r = (fun x y H Q => ∃ a b, x = .bl a ∧ y = .bl b ∧ Q (.bl (!decide (a = b))) H)) (ha : EvX true c env os ta (.bool a)) (hb : EvX true c env os tb (.bool b)) : EvX w c env os (tOp r ta tb) (.bool (!decide (a = b))) := fun ad σ H ok Q q => by
  subst hr
  exact ha ad σ H ok _ fun v H1 e1 r1 => hb ad σ H1 (ok.ext e1) _ fun u H2 e2 r2 => ⟨a, b, dn_bool r1, dn_bool r2, q _ H2 (e1.trans e2) (.bl _)⟩
/-- a text in texts -/
theorem ex_inLs {x : Str} {xs : List Str} (ha : EvX true c env os ta (.str x)) (hb : EvI c env os tb ((xs.map PyData.str).map SV.i)) : EvX w c env os (tOp (rIn c.K false) ta tb) (.bool (decide (x ∈ xs))) := by
  have hl : xs.map PyData.str = (xs.map fun y => y.cps.toList).map dT := by rw [List.map_map]; rfl
  refine EvX.is (ex_inLt (l := x.cps.toList) (ls := xs.map fun y => y.cps.toList) ha (by rw [← hl]; exact hb)) ?_
  congr 1
  refine decide_eq_decide.mpr ⟨fun h => ?_, fun h => List.mem_map.mpr ⟨x, h, rfl⟩⟩
  obtain ⟨y, hy, e⟩ := List.mem_map.mp h
  have : y = x := by
    obtain ⟨⟨y⟩⟩ := y
    obtain ⟨⟨x⟩⟩ := x
    have e : y = x := e
    rw [e]
  exact this ▸ hy
theorem ex_inTs {x : Str} {xs : List Str} (ha : EvX true c env os ta (.str x)) (hb : EvX true c env os tb (.tuple (xs.map PyData.str))) : EvX w c env os (tOp (rIn c.K false) ta tb) (.bool (decide (x ∈ xs))) := by
  have hl : xs.map PyData.str = (xs.map fun y => y.cps.toList).map dT := by rw [List.map_map]; rfl
  refine EvX.is (ex_inTt (l := x.cps.toList) (ls := xs.map fun y => y.cps.toList) ha (by rw [← hl]; exact hb)) ?_
  congr 1
  refine decide_eq_decide.mpr ⟨fun h => ?_, fun h => List.mem_map.mpr ⟨x, h, rfl⟩⟩
  obtain ⟨y, hy, e⟩ := List.mem_map.mp h
  have : y = x := by
    obtain ⟨⟨y⟩⟩ := y
    obtain ⟨⟨x⟩⟩ := x
    have e : y = x := e
    rw [e]
  exact this ▸ hy
end
/-- list + list, read only -/
def rCatL (K : PySem.W.Frag) : R2 := fun x y H Q => ∃ (a b : Addr) (xs ys : List V), x = .ref a ∧ y = .ref b ∧ SqL K H a xs ∧ SqL K H b ys ∧ xs.length + ys.length ≤ sizeLine ∧ ∀ p, H p = none → Q (.ref p) (upd H p (.lst (xs ++ ys)))
theorem op_catL {X : Cx} : OpR X (binaryOp .Add) (rCatL X.K) := by
  intro pins s σ H x y v u Q I rx ry h
  obtain ⟨a, b, xs, ys, rfl, rfl, ha, hb, hz, q⟩ := h
  cases rx
  cases ry
  obtain ⟨its, r, pl, _⟩ := I.list ha
  obtain ⟨its2, r2, pl2, _⟩ := I.list hb
  obtain ⟨⟨cls, dd, data, sl⟩, ho, hc, n, hd⟩ := pl.isList
  obtain ⟨⟨cls2, dd2, data2, sl2⟩, ho2, hc2, n2, hd2⟩ := pl2.isList
  simp only at hc hd hc2 hd2
  subst hc hd hc2 hd2
  have e1 := r.length
  have e2 := r2.length
  have ea : its.toArray ++ its2.toArray = (its ++ its2).toArray := by simp
  refine concat_meets ⟨_, ho, rfl⟩ ⟨_, ho2, rfl⟩ noFill_list_add seq_list_add PySem.F.slot_list_add PySem.F.entry_list_add (PySem.F.args_list_add_2 _ _) (list_addW a b its.toArray its2.toArray n n2 dd dd2 sl sl2 (by simp; omega)) ⟨ho, ho2, ?_⟩
  rw [ea]
  exact ⟨.ref _, _, I.lnew (t' := s.toks) (r.append r2) (by rw [List.length_append]; omega), rfl, q _ I.fresh⟩
theorem kCatL {X : Cx} {K : PySem.W.Frag} (h : X.K = K := by rfl) : OpR X (binaryOp .Add) (rCatL K) := by subst h; exact op_catL
theorem ef_catL {c : Cn} {env : Sy} {os : List SO} {ta tb : TE} {ds es : List PyData} (ha : EvX false c env os ta (.list ds)) (hb : EvX false c env os tb (.list es)) (hl : ds.length + es.length ≤ 100000) : EvF c env os (tOp (rCatL c.K) ta tb) (.lst ((ds ++ es).map SV.i)) := fun ad σ H ok Q q =>
  ha ad σ H ok _ fun v H1 e1 r1 => hb ad σ H1 (ok.ext e1) _ fun u H2 e2 r2 => by
    rw [Nw_false] at r1 r2
    have r1 := r1.ext e2
    obtain ⟨a, rfl⟩ := dn_list_ref r1
    obtain ⟨b, rfl⟩ := dn_list_ref r2
    obtain ⟨xs, hx, ax⟩ := sql_of_dn r1
    obtain ⟨ys, hy, ay⟩ := sql_of_dn r2
    have l1 := ax.length
    have l2 := ay.length
    refine ⟨a, b, xs, ys, rfl, rfl, hx, hy, Nat.le_trans (by omega) (show (100000 : Nat) ≤ sizeLine by decide), fun p hp => q p _ ((e1.trans e2).free hp) ((e1.trans e2).trans (Ex.new hp)) ⟨xs ++ ys, upd_same, ?_⟩⟩
    exact dn_paired ((DnAll.add hp (ax.append ay)).ext (Ex.new hp))
/-- a list's item that is drawn -/
theorem em_ixD {c : Cn} {env : Sy} {os : List SO} {ta tb : TE} {PP : List PyData → Prop} {P : PyData → Prop} (ha : EvM c env os ta (fun d => ∃ ds, d = .list ds ∧ PP ds)) (hb : ∀ (v : V) (ds : List PyData), PP ds → EvM (c.w ((v, .i (.list ds)) :: c.fr) os.length) env os tb (fun d => ∃ i : Int, d = .int i ∧ 0 ≤ i ∧ i < (ds.length : Int)))
    (hP : ∀ ds, PP ds → ∀ x ∈ ds, P x) : EvM c env os (tOp (rIxL c.K) ta tb) P :=
  em_op ha fun v d ⟨ds, e, hp⟩ => by
    subst e
    refine em_op2 (hb v ds hp) fun v2 d2 ⟨i, e2, h0, h1⟩ => ?_
    subst e2
    obtain ⟨j, rfl⟩ := Int.eq_ofNat_of_zero_le h0
    have hi : j < ds.length := by omega
    exact em_x (d := ds[j]) (ex_ixLD (ex_pin (d := .list ds) (List.mem_cons_of_mem _ (List.mem_cons_self ..))) (ex_pin (d := .int (j : Int)) (List.mem_cons_self ..)) (atI_nat (List.getElem?_eq_getElem hi))) (hP ds hp _ (List.getElem_mem hi))
theorem tab_keys {fa : List He.Fa} {fn : List He.DefD} {ts : List He.Tab} {w : World} {K : PySem.W.Frag} (c : He.SaysT fa fn ts w K) (i : Nat) {t : He.Tab} (h : ts[i]? = some t) : He.dicW K (t.1 K) = some (He.keysIn w.params t.2) := by
  have e : ts.map (fun t => He.dicW K (t.1 K)) = ts.map fun t => some (He.keysIn w.params t.2) := congrArg (fun z : He.AlT => z.2) c
  have e2 : (ts.map fun t => He.dicW K (t.1 K))[i]? = (ts.map fun t => some (He.keysIn w.params t.2))[i]? := by rw [e]
  rw [List.getElem?_map, List.getElem?_map, h] at e2
  exact Option.some.inj e2
theorem kSortKd {X : Cx} {K : PySem.W.Frag} {W : World} (hc : X.calm = true) (hu : X.A.units + 64 < cLine) (h : X.K = K := by rfl) (h2 : X.w = W := by rfl) : CallR X (.builtin "sorted") (rSortKd K W) := by subst h h2; exact cr_sortKd hc hu
theorem kIxKd {X : Cx} {K : PySem.W.Frag} {W : World} (h : X.K = K := by rfl) (h2 : X.w = W := by rfl) : IxR X (rIxD K W) := by subst h h2; exact ix_kdict
end DL

set_option Elab.async false
set_option linter.all false
set_option maxRecDepth 100000
set_option maxHeartbeats 2000000
/-! The data layer: reversed(list), list(dict), whole numbers in a list. -/
namespace DL
open PySem PySem.Spec PyProof.Rows L2
open Evl (Ex Ex.refl Ex.trans Ex.new)
theorem kRev {X : Cx} {K : PySem.W.Frag} {tg e : Expr} {ta : TA} {p pos : Pos} (hg : Gl X "reversed") (hm : X.mg "reversed" = none) (ha : PA X [e] ta) (hs : starEach [e] X.env = [(false, eval e X.env)] := by rfl) (hk : X.K = K := by rfl) : PI X tg (.Call (.Name "reversed" p) [e] [] pos) (iRev K ta) := by subst hk; exact pi_reversed hg hm ha hs
section
variable {w : Bool} {c : Cn} {env : Sy} {os : List SO} {te ta tb tl td : TE} {d : PyData}
theorem ew_rev {ds : List PyData} (h : EvX false c env os tl (.list ds)) : EvW c env os (iRev c.K (tCons tl tNil)) ds.reverse.length (itD ds.reverse) (fun _ => True) := fun ad σ H ok R q =>
  h ad σ H ok _ fun v H1 e r => by
    rw [Nw_false] at r
    obtain ⟨a, rfl⟩ := dn_list_ref r
    obtain ⟨xs, hs, ax⟩ := sql_of_dn r
    refine ⟨a, xs, rfl, hs, q _ H1 ((.ref a, .i (.list ds)) :: c.fr) e ((ok.ext e).pin r) (up_pin (ok.ext e)) ⟨fun i ad' env' os' σ' H' hi o _ => ?_, fun ad' env' os' σ' H' o _ => ?_, fun i ad' env' os' σ' H' x H'' hi o _ y => ?_⟩⟩
    all_goals
      have r' : Dn c.K (Nof c ad' os') H' (.ref a) (.list ds) := o.frm _ (List.mem_cons_self ..)
      obtain ⟨ys, hy, ay⟩ := sql_of_dn r'
      have e1 := ax.length
      have e2 := ay.length
    · rw [List.length_reverse] at hi
      exact ⟨by omega, ys, ys[xs.length - 1 - i]'(by omega), hy, List.getElem?_eq_getElem _⟩
    · show xs.length ≤ ds.reverse.length
      rw [List.length_reverse]; omega
    · obtain ⟨rfl, y⟩ := y
      refine ⟨Ex.refl _, ?_⟩
      rw [List.length_reverse] at hi
      obtain ⟨d, h1, h2⟩ := ay.getV (y ys hy)
      rw [itD_at (d := d) (by rw [List.getElem?_reverse hi, ← e1]; exact h1)]
      exact h2
/-- list(d): the keys of a dict of the store -/
theorem ef_listDK {r : List V → Hp → VK → Prop} {k : Nat} {kvs : List (Key × SV)} {ks : List Int} (hr : r = fun xs H Q => ∃ (a : Addr) (kvs : List (Key × V)), xs = [.ref a] ∧ Rd H a (.dK kvs) ∧ ∀ p, H p = none → Q (.ref p) (upd H p (.lst (kvs.map fun kv => kV kv.1)))) (hl : EvR c env os td k) (hk : os[k]? = some (.dK kvs)) (hks : kvs.map (·.1) = ks.map Sum.inl) : EvF c env os (tCB r (tCons td tNil)) (.lst ((ks.map PyData.int).map SV.i)) := fun ad σ H ok Q q => by
  subst hr
  refine hl.2 ad σ H ok _ fun H1 e1 => ?_
  obtain ⟨_, ws, hws, pw⟩ := (ok.ext e1).obj k _ hk rfl
  refine ⟨ad k, ws, rfl, Or.inl hws, fun p hp => ?_⟩
  refine q p _ (e1.free hp) (e1.trans (Ex.new hp)) ⟨_, upd_same, ?_⟩
  have hkeys := paired_keys pw
  have e : (ws.map fun kv => kV kv.1) = ks.map V.int := by
    have h1 : (ws.map fun kv => kV kv.1) = (ws.map (·.1)).map kV := by rw [List.map_map]; rfl
    rw [h1, hkeys, hks, List.map_map]
    rfl
  rw [e]
  exact dn_paired (ints_dn ks)
theorem inV_int (i : Int) (ns : List Int) : inV (.int i) (ns.map V.int) = decide (i ∈ ns) := by
  unfold inV
  rw [List.any_map]
  by_cases h : i ∈ ns
  · rw [decide_eq_true h]
    exact List.any_eq_true.mpr ⟨i, h, by simp [eqV]⟩
  · rw [decide_eq_false h]
    refine Bool.eq_false_iff.mpr fun z => h ?_
    obtain ⟨y, hy, e⟩ := List.any_eq_true.mp z
    have e2 : y = i := by simpa [eqV] using e
    rw [← e2]
    exact hy
theorem flat_ints (ns : List Int) : (ns.map V.int).all flatV = true := by
  rw [List.all_map]
  exact List.all_eq_true.mpr fun _ _ => rfl
/-- number in [number, ..] -/
theorem ex_inI {i : Int} {ns : List Int} (ha : EvX true c env os ta (.int i)) (hb : EvI c env os tb ((ns.map PyData.int).map SV.i)) : EvX w c env os (tOp (rIn c.K false) ta tb) (.bool (decide (i ∈ ns))) := fun ad σ H ok Q q =>
  ha ad σ H ok _ fun v H1 e1 r1 => hb ad σ H1 (ok.ext e1) _ fun p vs H2 e2 hs hx => by
    rw [ints_of hx] at hs
    cases dn_int r1
    refine ⟨p, ns.map V.int, rfl, Or.inl hs, rfl, flat_ints ns, ?_⟩
    show Q (.bl (inV (.int i) (ns.map V.int))) H2
    rw [inV_int]
    exact q _ H2 (e1.trans e2) (.bl _)
theorem ex_notinI {i : Int} {ns : List Int} (ha : EvX true c env os ta (.int i)) (hb : EvI c env os tb ((ns.map PyData.int).map SV.i)) : EvX w c env os (tOp (rIn c.K true) ta tb) (.bool (!decide (i ∈ ns))) := fun ad σ H ok Q q =>
  ha ad σ H ok _ fun v H1 e1 r1 => hb ad σ H1 (ok.ext e1) _ fun p vs H2 e2 hs hx => by
    rw [ints_of hx] at hs
    cases dn_int r1
    refine ⟨p, ns.map V.int, rfl, Or.inl hs, rfl, flat_ints ns, ?_⟩
    show Q (.bl (!inV (.int i) (ns.map V.int))) H2
    rw [inV_int]
    exact q _ H2 (e1.trans e2) (.bl _)
/-! a dict of the store with whole numbers as keys -/
def addK (ns : List Int) (n : Int) : List Int := if n ∈ ns then ns else ns ++ [n]
abbrev encK (ns : List Int) : List (Key × SV) := ns.map fun n => ((.inl n : Key), SV.i (.bool true))
theorem getA_encK (ns : List Int) (n : Int) : (getA (encK ns) (.inl n)).isSome = decide (n ∈ ns) := by
  by_cases h : n ∈ ns
  · rw [decide_eq_true h, getA_mem, List.map_map]
    exact List.mem_map.mpr ⟨n, h, rfl⟩
  · rw [decide_eq_false h]
    refine Bool.eq_false_iff.mpr fun z => h ?_
    rw [getA_mem, List.map_map] at z
    obtain ⟨m, hm, e⟩ := List.mem_map.mp z
    have e2 : m = n := Sum.inl.inj e
    rw [← e2]
    exact hm
theorem setA_encK (ns : List Int) (n : Int) : setA (encK ns) (.inl n) (.i (.bool true)) = encK (addK ns n) := by
  unfold setA addK
  rw [getA_encK]
  by_cases h : n ∈ ns
  · rw [if_pos (decide_eq_true h), if_pos h]
    unfold encK
    rw [List.map_map]
    refine List.map_congr_left fun m _ => ?_
    show ((Sum.inl m : Key), if (Sum.inl m : Key) = Sum.inl n then SV.i (.bool true) else SV.i (.bool true)) = _
    split <;> rfl
  · rw [if_neg (by rw [decide_eq_false h]; decide), if_neg h]
    unfold encK
    rw [List.map_append]
    rfl
theorem addK_len (ns : List Int) (n : Int) : (addK ns n).length ≤ ns.length + 1 := by
  unfold addK
  split
  · omega
  · simp
theorem encK_keys (ns : List Int) : (encK ns).map (·.1) = ns.map Sum.inl := by rw [List.map_map]; rfl
theorem soLt_encK {n : Nat} {ns : List Int} : SoLt n (.dK (encK ns)) := fun p hp => by
  obtain ⟨m, _, rfl⟩ := List.mem_map.mp hp
  exact True.intro
end
end DL
namespace DL
open PySem PySem.Spec PyProof.Rows L2
theorem cutG_ab {α : Type} (xs : List α) (a b : Nat) : cutG xs (some (a : Int)) (some (b : Int)) = (xs.drop a).take (b - a) := by
  by_cases h : b ≤ xs.length
  · exact cutG_mid xs a b h
  · unfold cutG
    rw [HT.sIx_nat, HT.sIx_nat, Nat.min_eq_right (by omega)]
    by_cases h2 : a ≤ xs.length
    · rw [Nat.min_eq_left h2, List.take_of_length_le (by rw [List.length_drop]; omega), List.take_of_length_le (by rw [List.length_drop]; omega)]
    · rw [Nat.min_eq_right (by omega)]
      simp [List.drop_of_length_le (show xs.length ≤ a by omega)]
section
variable {c : Cn} {env : Sy} {os : List SO} {g : TG} {tb u : TS} {D : Ends}
/-- a for over a list that may be left by return: P of the part that is done -/
theorem gs_forLP {α : Type} {wi : TI} {xs : List α} {e : α → SV} {n : Nat} {it : Nat → SV} {G : List SO → Prop} (P : List α → Prop) (E : List α → Sy) (O : List α → List SO) (hw : EvW c env os wi n it G) (hn : n = xs.length) (hit : ∀ i x, xs[i]? = some x → it i = e x)
    (h0 : ∀ c' : Cn, c'.lo = os.length → ∀ ad σ H, Ok c' ad env os σ H → Ok c' ad (E []) (O []) σ H) (p0 : P []) (hG : ∀ pre post, xs = pre ++ post → G (O pre))
    (hs : ∀ fr, Up c (c.w fr os.length) → ∀ pre x post, xs = pre ++ x :: post → P pre → ∃ env' js, Tg (c.w fr os.length) (E pre) (O pre) g (e x) env' js ∧ Go (c.w fr os.length) env' (O pre) tb { D with nx := fun σ H => P (pre ++ [x]) ∧ OkE (c.w fr os.length) (E (pre ++ [x])) (O (pre ++ [x])) σ H, ct := fun σ H => P (pre ++ [x]) ∧ OkE (c.w fr os.length) (E (pre ++ [x])) (O (pre ++ [x])) σ H, bk := u D })
    (hd : P xs → Go c (E xs) (O xs) u D) : Go c env os (tSeq (tFor wi g tb) u) D := by
  subst hn
  refine gs_forP (fun i => P (xs.take i)) (fun i => E (xs.take i)) (fun i => O (xs.take i)) hw (fun c' hc => by simpa using h0 c' hc) (by simpa using p0) (fun i hi => hG _ (xs.drop i) (List.take_append_drop i xs).symm) (fun fr up i hi hp => ?_) (by simpa using hd)
  have e1 : xs = xs.take i ++ xs[i] :: xs.drop (i + 1) := by
    rw [List.getElem_cons_drop]; exact (List.take_append_drop i xs).symm
  obtain ⟨env', js, h1, h2⟩ := hs fr up (xs.take i) xs[i] (xs.drop (i + 1)) e1 hp
  rw [hit i xs[i] (List.getElem?_eq_getElem hi)]
  refine ⟨env', js, h1, ?_⟩
  have e2 : xs.take (i + 1) = xs.take i ++ [xs[i]] := by rw [List.take_succ, List.getElem?_eq_getElem hi]; rfl
  simp only [e2]
  exact h2
end
end DL
namespace DL
open PySem PySem.Spec PyProof.Rows L2
open Evl (Ex Ex.refl Ex.trans Ex.new)
theorem kRevL {X : Cx} {K : PySem.W.Frag} {e : Expr} {te : TE} {k : Nat} {p1 p2 p3 pos : Pos} (he : PE X e te) (hk : X.K = K := by rfl) : PE X (.Subscript e (.Slice none none (some (.UnaryOp .USub (.Constant (.int 1) k p1) p2)) p3) pos) (tRevL K te) := by subst hk; exact pe_revL he
theorem paired_snoc2 {α β : Type} {F : α → β → Prop} : ∀ {l : List α} {m : List β}, Paired F l m → Paired F l.reverse m.reverse
  | _, _, .nil => .nil
  | _, _, .cons r t => by rw [List.reverse_cons, List.reverse_cons]; exact paired_snoc (paired_snoc2 t) r
section
variable {w : Bool} {c : Cn} {env : Sy} {os : List SO} {te ta tb tl td ty tx : TE} {d : PyData}
/-- xs[::-1] -/
theorem ef_rev {ss : List SV} (h : EvI c env os te ss) : EvF c env os (tRevL c.K te) (.lst ss.reverse) := fun ad σ H ok Q q =>
  h ad σ H ok _ fun a vs H1 e hs pv => ⟨a, vs, rfl, hs, fun p hp => q p _ (e.free hp) (e.trans (Ex.new hp)) ⟨_, upd_same, Paired.imp (paired_snoc2 pv) fun v s z => by
    cases s with
    | i d => exact (Dn.add hp z).ext (Ex.new hp)
    | t ks => obtain ⟨b, e1, e2⟩ := z; exact ⟨b, e1, Ex.new hp _ _ e2.1, e2.2⟩
    | ob C m => exact (ObOk.add hp z).ext (Ex.new hp)
    | r k => exact z⟩⟩
/-- d.get(k, x), keys that are tuples -/
theorem ex_dget2T {α β : Type} [DecidableEq α] {ek : α → List Key} {ev : β → PyData} {m : List (α × β)} {a : α} {b : β} (hi : ∀ a b, ek a = ek b → a = b) (hd : EvX true c env os td (dTd ek ev m)) (hk : EvK c env os ty (.tup ((ek a).map kV))) (hx : EvX true c env os tx (ev b)) : EvX true c env os (tDGet2 td ty tx) (ev ((getA m a).getD b)) := fun ad σ H ok Q q =>
  hd ad σ H ok _ fun v H1 e1 r1 => by
    obtain ⟨p, ws, rfl, hp, _, _⟩ := dn_dT r1
    refine ⟨p, rfl, Or.inr ⟨ws, Or.inl hp⟩, hk.2 ad σ H1 (ok.ext e1) _ fun k H2 e2 hb => hx ad σ H2 ((ok.ext e1).ext e2) _ fun z H3 e3 r3 => ?_⟩
    obtain ⟨p', ws', ep, hp', _, pw⟩ := dn_dT ((r1.ext e2).ext e3)
    cases ep
    have e23 := e2.trans e3
    refine ⟨_, DGet.t hp' (e3 _ _ hb), ?_⟩
    rcases val_dT (F := fun v b => Dn c.K (Nw true c ad os) H3 v (ev b)) hi pw a with ⟨x, y⟩ | ⟨v, b', x, y, f⟩
    · rw [y] at q
      rw [x]
      exact q z H3 (e1.trans e23) r3
    · rw [y] at q
      rw [x]
      exact q v H3 (e1.trans e23) f
end
theorem atI_negk {α : Type} {xs : List α} {k : Nat} {v : α} (h : xs.reverse[k]? = some v) : atI xs (-1 - (k : Int)) = some v := by
  have hk : k < xs.length := by
    have := (List.getElem?_eq_some_iff.mp h).1
    rwa [List.length_reverse] at this
  rw [List.getElem?_reverse hk] at h
  unfold atI ixN
  rw [if_neg (by omega), if_pos (by omega)]
  have e : (-1 - (k : Int) + (xs.length : Int)).toNat = xs.length - 1 - k := by omega
  rw [e]
  exact h
end DL
namespace DL
open PySem PySem.Spec PyProof.Rows L2
open Evl (Ex Ex.refl Ex.trans Ex.new)
theorem paired_rep {α β : Type} {F : α → β → Prop} {l : List α} {m : List β} (h : Paired F l m) : ∀ n : Nat, Paired F (List.replicate n l).flatten (List.replicate n m).flatten
  | 0 => .nil
  | n + 1 => by
    rw [List.replicate_succ, List.replicate_succ, List.flatten_cons, List.flatten_cons]
    exact paired_app h (paired_rep h n)
theorem flat_len {α : Type} (l : List α) : ∀ n : Nat, (List.replicate n l).flatten.length = n * l.length
  | 0 => by simp
  | n + 1 => by rw [List.replicate_succ, List.flatten_cons, List.length_append, flat_len l n, Nat.add_mul]; omega
section
variable {w : Bool} {c : Cn} {env : Sy} {os : List SO} {te ta tb : TE}
theorem SvOk.fresh {K : PySem.W.Frag} {N : Addr → Prop} {ad : Nat → Addr} {n : Nat} {H : Hp} {v : V} {s : SV} {l : Addr} {o : HO} (hl : H l = none) (z : SvOk K N ad n H v s) : SvOk K (fun a => N a ∨ a = l) ad n (upd H l o) v s := by
  cases s with
  | i d => exact (Dn.add hl z).ext (Ex.new hl)
  | t ks => obtain ⟨b, e1, e2⟩ := z; exact ⟨b, e1, Ex.new hl _ _ e2.1, e2.2⟩
  | ob C m => exact (ObOk.add hl z).ext (Ex.new hl)
  | r k => exact z
/-- [..] * k -/
theorem ef_rep {ss : List SV} {k : Int} (h : EvF c env os ta (.lst ss)) (hi : EvX true c env os tb (.int k)) (h0 : k < 2 ^ 63) (h1 : -(2 ^ 63) ≤ k) (hz : ss.length * k.toNat ≤ 100000) : EvF c env os (tOp rRep ta tb) (.lst (List.replicate k.toNat ss).flatten) := fun ad σ H ok Q q =>
  h ad σ H ok _ fun p H1 hp e1 r => hi ad σ H1 (ok.ext e1) _ fun u H2 e2 r2 => by
    obtain ⟨vs, hvs, pv⟩ := r
    have hl : vs.length = ss.length := Paired.length pv
    refine ⟨p, k, vs, rfl, dn_int r2, e2 _ _ hvs, h1, h0, by rw [hl]; exact Nat.le_trans hz (by decide), fun l hl => ?_⟩
    refine q l _ (e1.free (e2.free hl)) ((e1.trans e2).trans (Ex.new hl)) ⟨_, upd_same, paired_rep (Paired.imp pv fun v s z => ?_) _⟩
    exact SvOk.fresh hl ((z.sub fun a y => Or.inl y).ext e2)
end
end DL
namespace DL
open PySem PySem.Spec PyProof.Rows L2
open Evl (Ex Ex.refl Ex.trans Ex.new)
theorem kEnum {X : Cx} {K : PySem.W.Frag} {e : Expr} {ta : TA} {p pos tpos : Pos} {elts : List Expr} {kk : Nat} (hg : Gl X "enumerate") (hm : X.mg "enumerate" = none) (ha : PA X [e] ta) (hs : starEach [e] X.env = [(false, eval e X.env)] := by rfl) (hk : X.K = K := by rfl) :
    PI X (.Tuple elts kk tpos) (.Call (.Name "enumerate" p) [e] [] pos) (iEnum K ta) := by subst hk; exact pi_enum hg hm ha hs
theorem ew_enum {c : Cn} {env : Sy} {os : List SO} {tl : TE} {ds : List PyData} (h : EvX false c env os tl (.list ds)) : EvW c env os (iEnum c.K (tCons tl tNil)) ds.length (fun i => .i (.tuple [.int (i : Int), ds.getD i .none])) (fun _ => True) := fun ad σ H ok R q =>
  h ad σ H ok _ fun v H1 e r => by
    rw [Nw_false] at r
    obtain ⟨a, rfl⟩ := dn_list_ref r
    obtain ⟨xs, hs, ax⟩ := sql_of_dn r
    refine ⟨a, xs, rfl, hs, q _ H1 ((.ref a, .i (.list ds)) :: c.fr) e ((ok.ext e).pin r) (up_pin (ok.ext e)) ⟨fun i ad' env' os' σ' H' hi o _ => ?_, fun ad' env' os' σ' H' o _ => ?_, fun i ad' env' os' σ' H' x H'' hi o _ y => ?_⟩⟩
    all_goals
      have r' : Dn c.K (Nof c ad' os') H' (.ref a) (.list ds) := o.frm _ (List.mem_cons_self ..)
      obtain ⟨ys, hy, ay⟩ := sql_of_dn r'
      have e2 := ay.length
    · exact ⟨ys, ys[i]'(by omega), hy, List.getElem?_eq_getElem _⟩
    · exact ⟨ys, hy, by omega⟩
    · obtain ⟨T, z, rfl, hT, rfl, y⟩ := y
      refine ⟨Ex.new hT, ?_⟩
      obtain ⟨d, h1, h2⟩ := ay.getV (y ys hy)
      rw [List.getD_eq_getElem?_getD, h1]
      exact Dn.tup (Or.inl (Or.inl upd_same)) (.cons (.int _) (.cons (h2.ext (Ex.new hT)) .nil))
end DL
namespace DL
open PySem PySem.Spec PyProof.Rows L2
open Evl (Ex Ex.refl Ex.trans Ex.new)
theorem inV_bl (i : Bool) (ns : List Bool) : inV (.bl i) (ns.map V.bl) = decide (i ∈ ns) := by
  unfold inV
  rw [List.any_map]
  by_cases h : i ∈ ns
  · rw [decide_eq_true h]
    exact List.any_eq_true.mpr ⟨i, h, by simp [eqV]⟩
  · rw [decide_eq_false h]
    refine Bool.eq_false_iff.mpr fun z => h ?_
    obtain ⟨y, hy, e⟩ := List.any_eq_true.mp z
    have e2 : y = i := by simpa [eqV] using e
    rw [← e2]
    exact hy
theorem flat_bls (ns : List Bool) : (ns.map V.bl).all flatV = true := by
  rw [List.all_map]
  exact List.all_eq_true.mpr fun _ _ => rfl
theorem ex_notinB {w : Bool} {c : Cn} {env : Sy} {os : List SO} {ta tb : TE} {i : Bool} {ns : List Bool} (ha : EvX true c env os ta (.bool i)) (hb : EvI c env os tb ((ns.map PyData.bool).map SV.i)) : EvX w c env os (tOp (rIn c.K true) ta tb) (.bool (!decide (i ∈ ns))) := fun ad σ H ok Q q =>
  ha ad σ H ok _ fun v H1 e1 r1 => hb ad σ H1 (ok.ext e1) _ fun p vs H2 e2 hs hx => by
    rw [bls_of hx] at hs
    cases dn_bool r1
    refine ⟨p, ns.map V.bl, rfl, Or.inl hs, rfl, flat_bls ns, ?_⟩
    show Q (.bl (!inV (.bl i) (ns.map V.bl))) H2
    rw [inV_bl]
    exact q _ H2 (e1.trans e2) (.bl _)
end DL

set_option Elab.async false
set_option linter.all false
set_option maxRecDepth 100000
set_option maxHeartbeats 2000000
/-! The data layer: == of dicts of data, max of three. -/
namespace DL
open PySem PySem.Spec PyProof.Rows L2
open Evl (Ex Ex.refl Ex.trans Ex.new)
/-- a datum that is equal to itself, place by place -/
structure Same1 (d : PyData) : Prop where
  al : PySem.W.alike d d = true
  eq : PyData.eqv d d = true
  dep : d.depth ≤ 8
def rNeDi (K : PySem.W.Frag) : R2 := fun x y H Q => ∃ a b ks ls, x = .ref a ∧ y = .ref b ∧ Rd H a (.dK ks) ∧ Rd H b (.dK ls) ∧ ks.length = ls.length ∧ (∀ p ∈ ks, ∃ v d, valV ls p.1 = some v ∧ Dp K H p.2 d ∧ Dp K H v d ∧ Same1 d) ∧ Q (.bl false) H
section
variable {X : Cx}
theorem op_neDi (hu : X.A.units + 64 < cLine) : OpR X (compareOp .NotEq) (rNeDi X.K) := by
  intro pins s σ H x y v u Q I rx ry h
  obtain ⟨a, b, ks, ls, rfl, rfl, ea, eb, hlen, hp, q⟩ := h
  obtain rfl : v = Value.ref a := rx
  obtain rfl : u = Value.ref b := ry
  obtain ⟨za, ya, va, ra, da⟩ := dk_rd I.hok ea
  obtain ⟨_, yb, vb, rb, db⟩ := dk_rd I.hok eb
  have hl : va.length = vb.length := by rw [← Paired.length ra, ← Paired.length rb]; exact hlen
  have hits : PySem.W.KeqHits X.A.in1 s vb va true := by
    clear da hl hlen ea za
    unfold KV at ra
    induction ra with
    | nil => exact .nil
    | @cons p q' ps qs h t ih =>
      obtain ⟨h1, h2⟩ := h
      obtain ⟨v', d, e, f1, f2, sd⟩ := hp p List.mem_cons_self
      have rr : RelO (some v') (valueAt vb p.1) := by rw [← e]; exact rb.val p.1
      obtain ⟨y, hy, ry⟩ := rr.some_of
      obtain ⟨k, v⟩ := q'
      have h1' : p.1 = k := h1
      rw [h1'] at hy
      obtain ⟨as, r1⟩ := Dp.reads I d _ _ f1 h2
      obtain ⟨bs, r2⟩ := Dp.reads I d _ _ f2 ry
      have he := PySem.W.eqAt_alike d d X.A.in1 s _ _ as bs r1 r2 sd.al (by
        have := sd.dep
        rw [Around.in1_units]
        omega)
      rw [sd.eq] at he
      exact PySem.W.KeqHits.hit hy he (ih fun p' hm => hp p' (List.mem_cons_of_mem _ hm))
  exact PySem.W.keq_ne (knd := mixKind X.prog X.w) (r := true) ya yb da db (by omega) (fun _ => hits) (fin_bl I q (by simp [hl]))
theorem kNeDi {K : PySem.W.Frag} (hu : X.A.units + 64 < cLine) (h : X.K = K := by rfl) : OpR X (compareOp .NotEq) (rNeDi K) := by subst h; exact op_neDi hu
end
section
variable {α β : Type} [DecidableEq α] {w : Bool} {c : Cn} {env : Sy} {os : List SO} {ta tb tc : TE} {ek : α → Key} {ev : β → PyData} {m : List (α × β)}
theorem getA_nodup {m : List (α × β)} (h : (m.map (·.1)).Nodup) {p : α × β} (hp : p ∈ m) : getA m p.1 = some p.2 := by
  induction m with
  | nil => cases hp
  | cons q m ih =>
    rw [getA_cons]
    rw [List.map_cons, List.nodup_cons] at h
    rcases List.mem_cons.mp hp with z | z
    · rw [z, if_pos rfl]
    · rw [if_neg (fun e => h.1 (by rw [e]; exact List.mem_map.mpr ⟨p, z, rfl⟩))]
      exact ih h.2 z
theorem paired_mem {γ δ : Type} {F : γ → δ → Prop} : ∀ {l1 : List γ} {l2 : List δ}, Paired F l1 l2 → ∀ a ∈ l1, ∃ b ∈ l2, F a b
  | _, _, .cons (a := a) (b := b) r t, x, hx => by
    rcases List.mem_cons.mp hx with z | z
    · rw [z]; exact ⟨b, List.mem_cons_self .., r⟩
    · obtain ⟨y, hy, f⟩ := paired_mem t x z
      exact ⟨y, List.mem_cons_of_mem _ hy, f⟩
/-- d != e, both of the same entries -/
theorem ex_neDict (hi : ∀ a b, ek a = ek b → a = b) (h1 : EvX true c env os ta (dKd ek ev m)) (h2 : EvX true c env os tb (dKd ek ev m)) (hn : (m.map (·.1)).Nodup) (hs : ∀ p ∈ m, Same1 (ev p.2)) : EvX w c env os (tOp (rNeDi c.K) ta tb) (.bool false) := fun ad σ H ok Q q =>
  h1 ad σ H ok _ fun v H1 e1 r1 => h2 ad σ H1 (ok.ext e1) _ fun u H2 e2 r2 => by
    obtain ⟨a, ws, rfl, ha, _, pa⟩ := dn_dK (r1.ext e2)
    obtain ⟨b, us, rfl, hb, _, pb⟩ := dn_dK r2
    refine ⟨a, b, ws, us, rfl, rfl, ha, hb, by rw [Paired.length pa, Paired.length pb], fun p hp => ?_, q _ H2 (e1.trans e2) (.bl _)⟩
    obtain ⟨y, hy, ek1, dn1⟩ := paired_mem pa p hp
    have hg := getA_nodup hn hy
    rcases val_dK (F := fun v b => Dn c.K (Nw true c ad os) H2 v (ev b)) hi pb y.1 with ⟨_, z⟩ | ⟨v', b', z1, z2, z3⟩
    · rw [hg] at z; cases z
    · rw [hg] at z2
      cases z2
      have sd := hs y hy
      have hpl := plain_alike _ sd.al
      exact ⟨v', ev y.2, by rw [ek1]; exact z1, Dn.dp _ _ hpl dn1, Dn.dp _ _ hpl z3, sd⟩
theorem ex_max3 {r : List V → Hp → VK → Prop} {i j k : Int} (hr : r = rNuC3 nuMax3) (ha : EvX true c env os ta (.int i)) (hb : EvX true c env os tb (.int j)) (hc : EvX true c env os tc (.int k)) : EvX w c env os (tCB r (tCons ta (tCons tb (tCons tc tNil)))) (.int (max (max i j) k)) := fun ad σ H ok Q q => by
  subst hr
  refine ha ad σ H ok _ fun v H1 e1 r1 => hb ad σ H1 (ok.ext e1) _ fun u H2 e2 r2 => hc ad σ H2 ((ok.ext e1).ext e2) _ fun z H3 e3 r3 => ?_
  cases dn_int r1
  cases dn_int r2
  cases dn_int r3
  refine ⟨.int i, .int j, .int k, .int (max (max i j) k), rfl, ?_, q _ H3 ((e1.trans e2).trans e3) (.int _)⟩
  have h2 : ∀ x y : Int, nuMax2 (.int x) (.int y) = some (.int (max x y)) := fun x y => by
    show (some (if decide (x < y) = true then V.int y else V.int x)) = _
    by_cases h : x < y
    · rw [if_pos (decide_eq_true h), Int.max_eq_right (by omega)]
    · rw [if_neg (by rw [decide_eq_false h]; decide), Int.max_eq_left (by omega)]
  show (nuMax2 (.int i) (.int j)).bind (fun m => nuMax2 m (.int k)) = _
  rw [h2]
  exact h2 _ _
end
end DL
namespace DL
open PySem PySem.Spec PyProof.Rows L2
theorem EvR.dataK {α β : Type} [DecidableEq α] {c : Cn} {env : Sy} {os : List SO} {te : TE} {ek : α → Key} {ev : β → PyData} {m : List (α × β)} {k : Nat} (h : EvR c env os te k) (hk : os[k]? = some (.dK (m.map fun p => (ek p.1, SV.i (ev p.2))))) : EvX true c env os te (dKd ek ev m) := fun ad σ H ok Q q => h.2 ad σ H ok Q fun H2 e => by
  have ok2 := ok.ext e
  obtain ⟨_, ws, h1, h2⟩ := ok2.obj k _ hk rfl
  exact q _ H2 e (dK_dn (Or.inl h1) (fun z => ok2.nn k ⟨_, hk, rfl⟩ (Nw_true _ z)) (Paired.imp (pairK h2) fun _ _ z => ⟨z.1, z.2.sub fun a y => Or.inl (Nw_true a y)⟩))
end DL

set_option Elab.async false
set_option linter.all false
set_option maxRecDepth 100000
set_option maxHeartbeats 2000000
/-! The data layer: a list of new lists; a list within a list becomes data. -/
namespace DL
open PySem L2
open Evl (Ex Ex.refl Ex.trans Ex.new)
theorem Ok.free0 {c : Cn} {ad : Nat → Addr} {env : Sy} {os : List SO} {σ : L2.St} {H : Hp} (ok : Ok c ad env os σ H) {p : Addr} (hp : H p = none) : c.H0 p = none ∨ c.M p := by
  by_cases hm : c.M p
  · exact Or.inr hm
  · refine Or.inl ?_
    cases hz : c.H0 p with
    | none => rfl
    | some o => rw [ok.ex p o hz hm] at hp; cases hp
/-- gives the object k of the store, which has grown to os' -/
def EvG (c : Cn) (env : Sy) (os : List SO) (te : TE) (k : Nat) (os' : List SO) : Prop := k < os'.length ∧ ∀ ad σ H, Ok c ad env os σ H → ∀ Q : VK, (∀ ad' H2, Ok c ad' env os' σ H2 → Q (.ref (ad' k)) H2) → te σ H Q
section
variable {c : Cn} {env env' : Sy} {os os' : List SO} {g : TG} {tt : TT} {te : TE} {u : TS} {D : Ends}
theorem gs_asgG {i k : Nat} (h : EvG c env os te k os') (kk : Go c (env.set i (some (.r k))) os' u D) : Go c env os (tSeq (tAsg te (gName i)) u) D := fun ad σ H ok =>
  h.2 ad σ H ok _ fun ad' H2 ok2 => kk ad' _ H2 (ok2.set ⟨rfl, h.1⟩)
def refL (n i : Nat) : List SV := (List.range i).map fun j => SV.r (n + 1 + j)
theorem refL_len (n i : Nat) : (refL n i).length = i := by simp [refL]
theorem refL_succ (n i : Nat) : refL n (i + 1) = refL n i ++ [.r (n + 1 + i)] := by unfold refL; rw [List.range_succ, List.map_append]; rfl
theorem set_mid {γ : Type} (os l : List γ) (a b : γ) : (os ++ a :: l).set os.length b = os ++ b :: l := by
  rw [List.set_append_right _ _ (Nat.le_refl _), Nat.sub_self]; rfl
/-- a comprehension whose element is a new list: the lists stand behind the list of them -/
theorem eg_lcL {α : Type} {wi : TI} {n : Nat} {it : Nat → SV} {G : List SO → Prop} {xs : List α} {e : α → SV} {vs : List Nat} (f : α → List PyData) (hw : EvW c env os wi n it G) (hn : n = xs.length) (hit : ∀ i x, xs[i]? = some x → it i = e x)
    (hG : ∀ more, G (os ++ more)) (hz : xs.length ≤ 40000)
    (hs : ∀ fr lo, Up c (c.w fr lo) → ∀ more x, x ∈ xs → ∃ env' js, (∀ j ∈ js, j ∈ vs) ∧ Tg (c.w fr lo) (wipeE env vs) (os ++ more) g (e x) env' js ∧ EvT (c.w fr lo) env' (os ++ more) tt true ∧ EvF (c.w fr lo) env' (os ++ more) te (.lst ((f x).map SV.i))) :
    EvG c env os (tLc wi g tt te vs) os.length (os ++ SO.lst (refL os.length xs.length) :: xs.map fun x => SO.lst ((f x).map SV.i)) := by
  subst hn
  refine ⟨by simp, fun ad σ H ok Q q => hw ad σ H ok _ fun J H1 fr e1 ok1 up W D hD => ?_⟩
  have ok2 := ok1.new (o := .lst []) hD (Ex.new (o := .lst []) hD) (ok1.free0 hD) ⟨[], upd_same, .nil⟩
  have ok3 := ok2.pin (v := .ref D) (s := .r os.length) ⟨congrArg V.ref adN_same.symm, by simp⟩
  have up2 := up_pin (v := .ref D) (s := .r os.length) ok2
  have hlo' : (os ++ [SO.lst []]).length = os.length + 1 := by simp
  generalize hlo : (os ++ [SO.lst []]).length = lo at ok3 up2
  generalize hfr : ((V.ref D, SV.r os.length) :: fr) = fr' at ok3 up2
  have upc : Up c (c.w fr' lo) := fun a b d e f z => up _ _ _ _ _ (up2 _ _ _ _ _ z)
  let O : Nat → List SO := fun i => os ++ SO.lst (refL os.length i) :: (xs.take i).map fun x => SO.lst ((f x).map SV.i)
  have atD : ∀ {ad env os' σ H}, Ok (c.w fr' lo) ad env os' σ H → D = ad os.length := fun {ad env os' σ H} o => by
    have h1 := o.frm (V.ref D, SV.r os.length) (by rw [← hfr]; exact List.mem_cons_self ..)
    obtain ⟨h2, _⟩ := (show V.ref D = .ref (ad os.length) ∧ _ from h1)
    cases h2
    rfl
  refine ⟨fun i m H => m = xs.length - i ∧ i ≤ xs.length ∧ ∃ ad', Ok (c.w fr' lo) ad' env (O i) σ H, ⟨xs.length, by simp, Nat.zero_le _, _, ok3⟩, ?_⟩
  rintro i m H' ⟨rfl, hi, ad', ok'⟩
  have hD' := atD ok'
  have hget : ∀ i, (O i)[os.length]? = some (.lst (refL os.length i)) := fun i => by
    show (os ++ SO.lst (refL os.length i) :: _)[os.length]? = _
    rw [List.getElem?_append_right (Nat.le_refl _), Nat.sub_self]
    rfl
  by_cases hlt : i < xs.length
  · have e0 : xs[i]? = some xs[i] := List.getElem?_eq_getElem hlt
    have et : xs.take (i + 1) = xs.take i ++ [xs[i]] := by rw [List.take_succ, e0]; rfl
    have okw := ok'.wipe vs
    have hOl : (O i).length = os.length + 1 + i := by
      show (os ++ SO.lst (refL os.length i) :: _).length = _
      rw [List.length_append, List.length_cons, List.length_map, List.length_take, Nat.min_eq_left hi]
      omega
    refine .inr ⟨W.goes i _ _ _ _ _ hlt (up2 _ _ _ _ _ okw) (hG _), fun H'' => ∃ ad', Ok (c.w fr' lo) ad' env (O (i + 1)) σ H'', fun H'' p' => ⟨xs.length - (i + 1), by omega, rfl, hlt, p'⟩, fun x H'' y => ?_⟩
    obtain ⟨e2, r⟩ := W.yields i _ _ _ _ _ x H'' hlt (up2 _ _ _ _ _ okw) (hG _) y
    rw [hit i xs[i] e0] at r
    have ok5 := okw.ext e2
    obtain ⟨env', js, hjs, ht, hb, he⟩ := hs fr' lo upc (SO.lst (refL os.length i) :: (xs.take i).map fun x => SO.lst ((f x).map SV.i)) xs[i] (List.getElem_mem hlt)
    refine ht _ _ H'' x ok5 r _ fun σ2 ok6 hwp => ⟨?_, hb _ σ2 H'' ok6 _ fun H3 e3 => ?_⟩
    · rw [hwp vs hjs]
      have idem : ∀ (us : List Nat) (τ : L2.St), (∀ j ∈ us, τ[j]? = some none ∨ τ[j]? = none) → wipe τ us = τ := by
        intro us
        induction us with
        | nil => intro τ _; rfl
        | cons u us ih =>
          intro τ h
          show (wipe τ us).set u none = τ
          rw [ih τ fun j hj => h j (List.mem_cons_of_mem _ hj)]
          rcases h u (List.mem_cons_self ..) with z | z
          · obtain ⟨h1, h2⟩ := List.getElem?_eq_some_iff.mp z
            exact List.ext_getElem? fun k => by
              by_cases q : u = k
              · subst q; rw [List.getElem?_set_self h1, z]
              · rw [List.getElem?_set_ne q]
          · exact List.set_eq_of_length_le (List.getElem?_eq_none_iff.mp z)
      refine idem vs _ fun j hj => ?_
      cases hx : (wipe σ vs)[j]? with
      | none => exact Or.inr rfl
      | some o =>
        cases o with
        | none => exact Or.inl rfl
        | some v => exact absurd hj (wipe_some hx).2
    · rw [if_pos rfl]
      refine he _ σ2 H3 (ok6.ext e3) _ fun p H4 hp e4 ry => ?_
      have ok7 := (ok'.ext e2).ext e3
      have okn := ok7.new hp e4 (ok7.free0 hp) ry
      have hgn : (O i ++ [SO.lst ((f xs[i]).map SV.i)])[os.length]? = some (.lst (refL os.length i)) := by
        rw [List.getElem?_append_left (by rw [hOl]; omega)]
        exact hget i
      have eD : adN ad' (O i).length p os.length = D := by rw [adN_ne (by rw [hOl]; omega)]; exact hD'.symm
      obtain ⟨_, ws, hws, pws⟩ := okn.obj os.length _ hgn rfl
      rw [eD] at hws
      refine ⟨ws, hws, ?_, ?_⟩
      · rw [Paired.length pws, refL_len]
        exact Nat.lt_of_lt_of_le (show i < 40000 by omega) (by decide)
      · have hN : Nof (c.w fr' lo) (adN ad' (O i).length p) (O i ++ [SO.lst ((f xs[i]).map SV.i)]) D := Or.inr ⟨os.length, ⟨_, hgn, rfl⟩, eD.symm⟩
        have m := okn.mut (o' := .lst (refL os.length (i + 1))) (u' := .lst (ws ++ [.ref p])) hgn rfl rfl (by
          rw [eD]
          refine ⟨_, upd_same, ?_⟩
          rw [refL_succ]
          refine paired_snoc (Paired.imp pws fun _ _ z => z.mut hws rfl hN) ⟨?_, by rw [List.length_append, hOl]; simp⟩
          rw [← hOl, adN_same])
        rw [eD] at m
        have es : (O i ++ [SO.lst ((f xs[i]).map SV.i)]).set os.length (SO.lst (refL os.length (i + 1))) = O (i + 1) := by
          show ((os ++ SO.lst (refL os.length i) :: _) ++ _).set _ _ = os ++ SO.lst (refL os.length (i + 1)) :: _
          rw [List.append_assoc, List.cons_append, set_mid, et, List.map_append]
          rfl
        rw [es] at m
        exact ⟨_, m⟩
  · have q0 : i = xs.length := by omega
    subst q0
    refine .inl ⟨W.stops _ _ _ _ _ (up2 _ _ _ _ _ (ok')) (hG _), ?_⟩
    rw [hD']
    have hO : O xs.length = os ++ SO.lst (refL os.length xs.length) :: xs.map fun x => SO.lst ((f x).map SV.i) := by
      show os ++ SO.lst (refL os.length xs.length) :: (xs.take xs.length).map _ = _
      rw [List.take_length]
    rw [hO] at ok'
    exact q ad' H' (upc _ _ _ _ _ ok')
end
section
variable {c : Cn} {env env' : Sy} {os os' : List SO} {u : TS} {D : Ends}
theorem paired_setS {α β : Type} {F G : α → β → Prop} {m : Nat} {y : β} : ∀ {l₁ : List α} {l₂ : List β}, Paired F l₁ l₂ → (∀ a b, F a b → G a b) → (∀ a b, l₂[m]? = some b → F a b → G a y) → Paired G l₁ (l₂.set m y)
  | _, _, .nil, _, _ => .nil
  | x :: xs, z :: zs, .cons a t, f, h => by
    cases m with
    | zero => exact .cons (h _ _ rfl a) (Paired.imp t f)
    | succ m => exact .cons (f _ _ a) (paired_setS t f fun a b e => h a b (by simpa using e))
/-- a list within a list is data from now on -/
theorem Ok.ownI {ad : Nat → Addr} {σ : L2.St} {H : Hp} {k j m : Nat} {ss : List SV} {ds : List PyData} (ok : Ok c ad env os σ H) (hk : os[k]? = some (.lst ss)) (hj : os[j]? = some (.lst (ds.map SV.i))) (hi : ss[m]? = some (.r j)) (kj : k ≠ j) :
    Ok c ad env ((os.set k (.lst (ss.set m (.i (.list ds))))).set j .x) σ H := by
  have lj : Lv os j := ⟨_, hj, rfl⟩
  have lk : Lv os k := ⟨_, hk, rfl⟩
  have kl := (List.getElem?_eq_some_iff.mp hk).1
  have jl := (List.getElem?_eq_some_iff.mp hj).1
  generalize hos : (os.set k (.lst (ss.set m (.i (.list ds))))).set j .x = os2
  have len : os2.length = os.length := by rw [← hos]; simp
  have hl : ∀ i, Lv os2 i → Lv os i ∧ i ≠ j := fun i h => by
    obtain ⟨u, e, hu⟩ := h
    rw [← hos] at e
    by_cases q : j = i
    · subst q
      rw [List.getElem?_set_self (by rw [List.length_set]; exact jl)] at e
      cases e; cases hu
    · rw [List.getElem?_set_ne q] at e
      by_cases q2 : k = i
      · subst q2; exact ⟨lk, fun z => q z.symm⟩
      · rw [List.getElem?_set_ne q2] at e
        exact ⟨⟨u, e, hu⟩, fun z => q z.symm⟩
  have hN : ∀ a, Nof c ad os2 a → Nof c ad os a ∧ a ≠ ad j := fun a h => by
    rcases h with h | ⟨i, l, e⟩
    · exact ⟨Or.inl h, fun z => ok.nn j lj (z ▸ h)⟩
    · obtain ⟨l', ne⟩ := hl i l
      exact ⟨Or.inr ⟨i, l', e⟩, fun z => ne (ok.inj i j l' lj (e.symm.trans z))⟩
  have hv : ∀ v s, SvOk c.K (Nof c ad os) ad os.length H v s → SvOk c.K (Nof c ad os2) ad os2.length H v s := fun v s h => by
    rw [len]
    exact h.sub fun a q => (hN a q).1
  obtain ⟨_, vs, hvs, pv⟩ := ok.obj j _ hj rfl
  have hd : Dn c.K (Nof c ad os2) H (.ref (ad j)) (.list ds) :=
    .lst (Or.inl hvs) (fun z => (hN _ z).2 rfl) ((paired_dn pv).sub fun a q => (hN a q).1)
  refine ⟨ok.len, ok.ex, ok.n0, fun i s h => ?_, fun i o h l => ?_, fun a b la lb => ok.inj a b (hl a la).1 (hl b lb).1, fun a la => ok.nn a (hl a la).1, fun p hp => (ok.frm p hp).sub fun a q => (hN a q).1, by rw [len]; exact ok.low⟩
  · obtain ⟨v, h1, h2⟩ := ok.val i s h
    exact ⟨v, h1, hv v s h2⟩
  · rw [← hos] at h
    by_cases q : j = i
    · subst q
      rw [List.getElem?_set_self (by rw [List.length_set]; exact jl)] at h
      cases h; cases l
    · rw [List.getElem?_set_ne q] at h
      by_cases q2 : k = i
      · subst q2
        rw [List.getElem?_set_self kl] at h
        cases h
        obtain ⟨h1, ws, hws, pw⟩ := ok.obj k _ hk rfl
        refine ⟨h1, ws, hws, paired_setS pw (fun a b z => hv _ _ z) fun a b e z => ?_⟩
        rw [hi] at e
        cases e
        obtain ⟨z1, z2⟩ := z
        show Dn _ _ _ _ _
        rw [z1]
        exact hd
      · rw [List.getElem?_set_ne q2] at h
        obtain ⟨h1, h2⟩ := ok.obj i o h l
        exact ⟨h1, h2.map hv fun u e => e⟩
/-- all lists of a list of lists, that stand behind it -/
theorem Ok.ownL {ad : Nat → Addr} {σ : L2.St} {H : Hp} : ∀ (dss : List (List PyData)) (done : List PyData) (mid : List SO), mid.length = done.length →
    Ok c ad env (os ++ SO.lst (done.map SV.i ++ (List.range dss.length).map fun j => SV.r (os.length + 1 + (done.length + j))) :: (mid ++ dss.map fun ds => SO.lst (ds.map SV.i))) σ H →
    Ok c ad env (os ++ SO.lst ((done ++ dss.map PyData.list).map SV.i) :: (mid ++ dss.map fun _ => SO.x)) σ H
  | [], done, mid, _, ok => by simpa using ok
  | ds :: dss, done, mid, hm, ok => by
    have hk : (os ++ SO.lst (done.map SV.i ++ (List.range (ds :: dss).length).map fun j => SV.r (os.length + 1 + (done.length + j))) :: (mid ++ (ds :: dss).map fun ds => SO.lst (ds.map SV.i)))[os.length]? = some (.lst (done.map SV.i ++ (List.range (ds :: dss).length).map fun j => SV.r (os.length + 1 + (done.length + j)))) := by
      rw [List.getElem?_append_right (Nat.le_refl _), Nat.sub_self]; rfl
    have hj : (os ++ SO.lst (done.map SV.i ++ (List.range (ds :: dss).length).map fun j => SV.r (os.length + 1 + (done.length + j))) :: (mid ++ (ds :: dss).map fun ds => SO.lst (ds.map SV.i)))[os.length + 1 + done.length]? = some (.lst (ds.map SV.i)) := by
      rw [List.getElem?_append_right (by omega), show os.length + 1 + done.length - os.length = done.length + 1 by omega, List.getElem?_cons_succ, List.getElem?_append_right (by omega), hm, Nat.sub_self]
      rfl
    have hi : (done.map SV.i ++ (List.range (ds :: dss).length).map fun j => SV.r (os.length + 1 + (done.length + j)))[done.length]? = some (.r (os.length + 1 + done.length)) := by
      rw [List.getElem?_append_right (by simp), List.length_map, Nat.sub_self, List.getElem?_map, List.getElem?_range (by simp)]
      rfl
    have ok2 := ok.ownI hk hj hi (by omega)
    have e1 : (done.map SV.i ++ (List.range (ds :: dss).length).map fun j => SV.r (os.length + 1 + (done.length + j))).set done.length (SV.i (PyData.list ds)) = (done ++ [PyData.list ds]).map SV.i ++ (List.range dss.length).map fun j => SV.r (os.length + 1 + ((done ++ [PyData.list ds]).length + j)) := by
      rw [List.set_append_right _ _ (by simp), List.length_map, Nat.sub_self, List.length_cons, List.range_succ_eq_map, List.map_cons, List.set_cons_zero, List.map_map, List.map_append, List.append_assoc]
      refine congrArg (done.map SV.i ++ ·) ?_
      show _ = [SV.i (PyData.list ds)] ++ _
      rw [List.singleton_append]
      refine congrArg (SV.i (PyData.list ds) :: ·) (List.map_congr_left fun j _ => ?_)
      show SV.r _ = SV.r _
      rw [List.length_append]
      simp
      omega
    rw [set_mid, e1] at ok2
    have e2 : ((os ++ SO.lst ((done ++ [PyData.list ds]).map SV.i ++ (List.range dss.length).map fun j => SV.r (os.length + 1 + ((done ++ [PyData.list ds]).length + j))) :: (mid ++ (ds :: dss).map fun ds => SO.lst (ds.map SV.i)))).set (os.length + 1 + done.length) .x =
        os ++ SO.lst ((done ++ [PyData.list ds]).map SV.i ++ (List.range dss.length).map fun j => SV.r (os.length + 1 + ((done ++ [PyData.list ds]).length + j))) :: ((mid ++ [SO.x]) ++ dss.map fun ds => SO.lst (ds.map SV.i)) := by
      rw [List.set_append_right _ _ (by omega), show os.length + 1 + done.length - os.length = done.length + 1 by omega, List.set_cons_succ, List.set_append_right _ _ (by omega), hm, Nat.sub_self, List.map_cons, List.set_cons_zero, List.append_assoc]
      rfl
    rw [e2] at ok2
    have r := Ok.ownL dss (done ++ [PyData.list ds]) (mid ++ [SO.x]) (by simp [hm]) ok2
    rw [List.append_assoc, List.append_assoc] at r
    exact r
theorem gs_ownL {dss : List (List PyData)} (hos : os' = os ++ SO.lst (refL os.length dss.length) :: dss.map fun ds => SO.lst (ds.map SV.i)) (g : Go c env (os ++ SO.lst ((dss.map PyData.list).map SV.i) :: dss.map fun _ => SO.x) u D) : Go c env os' u D := fun ad σ H ok =>
  g ad σ H (Ok.ownL (os := os) dss [] [] rfl (by rw [hos] at ok; simpa [refL] using ok))
end
end DL
namespace DL
open PySem L2
open Evl (Ex Ex.refl Ex.trans Ex.new)
/-! ### a dict comprehension -/
def dcM {α A B : Type} [DecidableEq A] (fk : α → A) (fv : α → B) (xs : List α) : List (A × B) := xs.foldl (fun m x => setA m (fk x) (fv x)) []
theorem dcM_snoc {α A B : Type} [DecidableEq A] (fk : α → A) (fv : α → B) (xs : List α) (x : α) : dcM fk fv (xs ++ [x]) = setA (dcM fk fv xs) (fk x) (fv x) := by unfold dcM; rw [List.foldl_append]; rfl
theorem dcM_len {α A B : Type} [DecidableEq A] (fk : α → A) (fv : α → B) : ∀ xs : List α, (dcM fk fv xs).length ≤ xs.length := by
  have go : ∀ (xs : List α) (m : List (A × B)), (xs.foldl (fun m x => setA m (fk x) (fv x)) m).length ≤ m.length + xs.length := by
    intro xs
    induction xs with
    | nil => intro m; exact Nat.le_refl _
    | cons x xs ih =>
      intro m
      have h1 := ih (setA m (fk x) (fv x))
      have h2 := setA_len m (fk x) (fv x)
      rw [List.foldl_cons, List.length_cons]
      omega
  intro xs
  simpa [dcM] using go xs []
section
variable {c : Cn} {env env' : Sy} {os os' : List SO} {g : TG} {tt : TT} {tk tv : TE} {u : TS} {D : Ends}
theorem ef_dc {α A B : Type} [DecidableEq A] {ek : A → Key} {ev : B → PyData} (inj : ∀ a b, ek a = ek b → a = b) {wi : TI} {n : Nat} {it : Nat → SV} {G : List SO → Prop} {xs : List α} {e : α → SV} {vs : List Nat} (fk : α → A) (fv : α → B) (hw : EvW c env os wi n it G) (hn : n = xs.length) (hit : ∀ i x, xs[i]? = some x → it i = e x)
    (hG : ∀ o, G (os ++ [o])) (hz : xs.length ≤ 40000)
    (hs : ∀ fr lo, Up c (c.w fr lo) → ∀ acc x, x ∈ xs → ∃ env' js, (∀ j ∈ js, j ∈ vs) ∧ Tg (c.w fr lo) (wipeE env vs) (os ++ [.dK acc]) g (e x) env' js ∧ EvT (c.w fr lo) env' (os ++ [.dK acc]) tt true ∧ EvX true (c.w fr lo) env' (os ++ [.dK acc]) tk (kdat (ek (fk x))) ∧ EvX false (c.w fr lo) env' (os ++ [.dK acc]) tv (ev (fv x))) :
    EvF c env os (tDc wi g tt tk tv vs) (.dK ((dcM fk fv xs).map fun p => (ek p.1, SV.i (ev p.2)))) := fun ad σ H ok Q q => by
  subst hn
  refine hw ad σ H ok _ fun J H1 fr e1 ok1 up W D hD => ?_
  have ok2 := ok1.new (o := .dK []) hD (Ex.new (o := .dK []) hD) (ok1.free0 hD) ⟨[], upd_same, .nil⟩
  have ok3 := ok2.pin (v := .ref D) (s := .r os.length) ⟨congrArg V.ref adN_same.symm, by simp⟩
  have ok4 := ok3.wipe vs
  have up2 := up_pin (v := .ref D) (s := .r os.length) ok2
  generalize hlo : (os ++ [SO.dK []]).length = lo at ok4 up2
  generalize hfr : ((V.ref D, SV.r os.length) :: fr) = fr' at ok4 up2
  have upc : Up c (c.w fr' lo) := fun a b d e f z => up _ _ _ _ _ (up2 _ _ _ _ _ z)
  let acc : Nat → List (Key × SV) := fun i => (dcM fk fv (xs.take i)).map fun p => (ek p.1, SV.i (ev p.2))
  have hacc : ∀ i, (acc i).length ≤ i := fun i => by
    show ((dcM fk fv (xs.take i)).map _).length ≤ i
    rw [List.length_map]
    have h1 := dcM_len fk fv (xs.take i)
    rw [List.length_take] at h1
    omega
  refine ⟨fun i m H => m = xs.length - i ∧ i ≤ xs.length ∧ Ok (c.w fr' lo) (adN ad os.length D) (wipeE env vs) (os ++ [.dK (acc i)]) (wipe σ vs) H ∧ Ex H1 H, ⟨xs.length, by simp, Nat.zero_le _, ok4, Ex.new hD⟩, ?_⟩
  rintro i m H' ⟨rfl, hi, ok', ex1⟩
  have hget : (os ++ [SO.dK (acc i)])[os.length]? = some (.dK (acc i)) := by simp
  by_cases hlt : i < xs.length
  · have e0 : xs[i]? = some xs[i] := List.getElem?_eq_getElem hlt
    have et : xs.take (i + 1) = xs.take i ++ [xs[i]] := by rw [List.take_succ, e0]; rfl
    refine .inr ⟨W.goes i _ _ _ _ _ hlt (up2 _ _ _ _ _ ok') (hG _), fun H'' => Ok (c.w fr' lo) (adN ad os.length D) (wipeE env vs) (os ++ [.dK (acc (i + 1))]) (wipe σ vs) H'' ∧ Ex H1 H'', fun H'' p' => ⟨xs.length - (i + 1), by omega, rfl, hlt, p'.1, p'.2⟩, fun x H'' y => ?_⟩
    obtain ⟨e2, r⟩ := W.yields i _ _ _ _ _ x H'' hlt (up2 _ _ _ _ _ ok') (hG _) y
    rw [hit i xs[i] e0] at r
    have ok5 := ok'.ext e2
    obtain ⟨env', js, hjs, ht, hb, hek, hev⟩ := hs fr' lo upc (acc i) xs[i] (List.getElem_mem hlt)
    refine ht _ _ H'' x ok5 r _ fun σ2 ok6 hwp => ⟨?_, hb _ σ2 H'' ok6 _ fun H3 e3 => ?_⟩
    · rw [hwp vs hjs]
      have idem : ∀ (us : List Nat) (τ : L2.St), (∀ j ∈ us, τ[j]? = some none ∨ τ[j]? = none) → wipe τ us = τ := by
        intro us
        induction us with
        | nil => intro τ _; rfl
        | cons u us ih =>
          intro τ h
          show (wipe τ us).set u none = τ
          rw [ih τ fun j hj => h j (List.mem_cons_of_mem _ hj)]
          rcases h u (List.mem_cons_self ..) with z | z
          · obtain ⟨h1, h2⟩ := List.getElem?_eq_some_iff.mp z
            exact List.ext_getElem? fun k => by
              by_cases q : u = k
              · subst q; rw [List.getElem?_set_self h1, z]
              · rw [List.getElem?_set_ne q]
          · exact List.set_eq_of_length_le (List.getElem?_eq_none_iff.mp z)
      refine idem vs _ fun j hj => ?_
      cases hx : (wipe σ vs)[j]? with
      | none => exact Or.inr rfl
      | some o =>
        cases o with
        | none => exact Or.inl rfl
        | some v => exact absurd hj (wipe_some hx).2
    · rw [if_pos rfl]
      refine hek _ σ2 H3 (ok6.ext e3) _ fun yk H4 e4 rk => hev _ σ2 H4 ((ok6.ext e3).ext e4) _ fun y H5 e5 ry => ?_
      have ok7 := ((ok5.ext e3).ext e4).ext e5
      obtain ⟨_, ws, hws, pws⟩ := ok7.obj os.length _ hget rfl
      rw [adN_same] at hws
      have ea : acc (i + 1) = setA (acc i) (ek (fk xs[i])) (SV.i (ev (fv xs[i]))) := by
        show (dcM fk fv (xs.take (i + 1))).map _ = _
        rw [et, dcM_snoc]
        exact (setA_enc (ev := fun b : B => SV.i (ev b)) inj _ _ _).symm
      refine ⟨ws, ek (fk xs[i]), dn_key rk, hws, ?_, ?_⟩
      · rw [Paired.length pws]
        exact Nat.lt_of_le_of_lt (hacc i) (Nat.lt_of_lt_of_le (show i < 40000 by omega) (by decide))
      · have hN : Nof (c.w fr' lo) (adN ad os.length D) (os ++ [SO.dK (acc i)]) D := Or.inr ⟨os.length, ⟨_, hget, rfl⟩, adN_same.symm⟩
        rw [Nw_false] at ry
        have m := ok7.mut (o' := .dK (acc (i + 1))) (u' := .dK (putK ws (ek (fk xs[i])) y)) hget rfl rfl (by
          rw [adN_same]
          refine ⟨_, upd_same, ?_⟩
          rw [ea]
          exact put_set (Paired.imp pws fun _ _ z => ⟨z.1, z.2.mut hws rfl hN⟩) (show SvOk _ _ _ _ _ _ (SV.i _) from Dn.mut hws rfl hN ry))
        rw [adN_same] at m
        have es : (os ++ [SO.dK (acc i)]).set os.length (SO.dK (acc (i + 1))) = os ++ [SO.dK (acc (i + 1))] := by
          rw [List.set_append_right _ _ (Nat.le_refl _), Nat.sub_self]
          rfl
        rw [es] at m
        refine ⟨m, fun a o h => ?_⟩
        rw [upd_ne (ne_of_none h hD)]
        exact (((ex1.trans e2).trans e3).trans e4).trans e5 a o h
  · have q0 : i = xs.length := by omega
    subst q0
    have ea : acc xs.length = (dcM fk fv xs).map fun p => (ek p.1, SV.i (ev p.2)) := by
      show (dcM fk fv (xs.take xs.length)).map _ = _
      rw [List.take_length]
    refine .inl ⟨W.stops _ _ _ _ _ (up2 _ _ _ _ _ ok') (hG _), ?_⟩
    obtain ⟨_, ws, hws, pws⟩ := ok'.obj os.length _ hget rfl
    rw [adN_same] at hws
    refine q D H' (e1.free hD) (e1.trans ex1) ⟨ws, hws, ?_⟩
    have hget2 := hget
    rw [ea] at pws hget2
    refine pairKi (Paired.imp (pairK pws) fun x y z => ⟨z.1, z.2.sub fun a z => ?_⟩)
    rcases z with z | z
    · rcases z with z | ⟨k, ⟨o, h1, h2⟩, z⟩
      · exact Or.inl z
      · have hk : k < os.length := (List.getElem?_eq_some_iff.mp h1).1
        exact Or.inr ⟨k, ⟨o, by rw [List.getElem?_append_left hk]; exact h1, h2⟩, by rw [adN_ne (by omega)]; exact z⟩
    · exact Or.inr ⟨os.length, ⟨_, hget2, rfl⟩, by rw [adN_same]; exact z⟩
end
end DL
namespace L2
open PySem PySem.Spec PyProof.Rows
section
variable {X : Cx} {o lo hi : Expr} {to tl th : TE} {p2 pos : Pos}
/-- xs[i:j] = ys -/
def gSl (to tl th : TE) : TG := fun v σ H Q => to σ H fun o H1 => tl σ H1 fun a H2 => th σ H2 fun c H3 => ∃ (l b : Addr) (xs ys : List V) (i j : Int), o = .ref l ∧ v = .ref b ∧ a = .int i ∧ c = .int j ∧ H3 l = some (.lst xs) ∧ H3 b = some (.lst ys) ∧ l ≠ b ∧ 0 ≤ i ∧ i ≤ j ∧ j ≤ xs.length ∧ xs.length + ys.length ≤ sizeLine ∧
  Q σ (upd H3 l (.lst (xs.take i.toNat ++ ys ++ xs.drop j.toNat)))
theorem pg_sl (ho : PE X o to) (hl : PE X lo tl) (hh : PE X hi th)
    (ha : ∀ v, assign (.Subscript o (.Slice (some lo) (some hi) none p2) pos) X.env v = (do
      let ov ← holding [v] (eval o X.env)
      let iv ← holding [v, ov] (eval (.Slice (some lo) (some hi) none p2) X.env)
      standAt pos
      holding [v, ov, iv] (setItem ov iv v)
      release [iv, v, ov] []) := by intro _; rfl) : PG X (.Subscript o (.Slice (some lo) (some hi) none p2) pos) (gSl to tl th) := by
  refine ⟨fun pins s σ H v u Q I r h => ?_⟩
  rw [ha]
  refine wpAny_bind (wpAny_holding (thn (ho.run pins s σ H _ I h) fun ov s1 ⟨x, H1, I1, r1, q1⟩ => ?_))
  refine wpAny_bind (wpAny_holding (wpAny_Slice ?_))
  show wpAny _ _ (eval lo X.env) _ _ s1
  refine thn (hl.run pins s1 σ H1 _ I1 q1) fun vl s2 ⟨y, H2, I2, r2, q2⟩ => ?_
  show wpAny _ _ (eval hi X.env) _ _ s2
  refine thn (hh.run pins s2 σ H2 _ I2 q2) fun vu s3 ⟨z, H3, I3, r3, q3⟩ => ?_
  rw [evalPart_none]
  refine wpAny_pure ?_
  obtain ⟨l, b, xs, ys, i, j, rfl, rfl, rfl, rfl, hxl, hyb, hne, h0, hij, hj, hz, q⟩ := q3
  have I4 : Inv X pins σ H3 { s3 with heap := s3.heap.push { cls := .type "slice", data := .fields #[vl, vu, .none] } } := I3.kept (t' := s3.toks) fun b ob q => Heap.get?_push_of_some _ q
  obtain rfl : ov = Value.ref l := r1
  obtain rfl : u = Value.ref b := r
  refine wpAny_bind (wpAny_standAt (wpAny_bind (wpAny_holding (set_slice I4 hxl hyb hne (Heap.IsSliceOf.new ..) r2 r3 h0 hij hj hz fun s5 I5 => ?_))))
  exact wpAny_release ⟨σ, _, I5, q⟩
end
end L2
namespace DL
open PySem L2
open Evl (Ex Ex.refl Ex.trans Ex.new)
section
variable {c : Cn} {env env' : Sy} {os os' : List SO} {te tl ta tb : TE} {u : TS} {D : Ends}
theorem gs_setSl {k : Nat} {ss us : List SV} {i j : Int} (h : EvF c env os te (.lst us)) (hl : EvR c env os tl k) (hk : os[k]? = some (.lst ss)) (hi : EvX true c env os ta (.int i)) (hj : EvX true c env os tb (.int j)) (h0 : 0 ≤ i) (hij : i ≤ j) (hjl : j ≤ ss.length) (hz : ss.length + us.length ≤ 100000)
    (g : Go c env (os.set k (.lst (ss.take i.toNat ++ us ++ ss.drop j.toNat))) u D) : Go c env os (tSeq (tAsg te (gSl tl ta tb)) u) D := fun ad σ H ok =>
  h ad σ H ok _ fun p H1 hp e1 r => hl.2 ad σ H1 (ok.ext e1) _ fun H2 e2 => hi ad σ H2 ((ok.ext e1).ext e2) _ fun y H3 e3 r3 => hj ad σ H3 (((ok.ext e1).ext e2).ext e3) _ fun z H4 e4 r4 => by
    have ok4 := (((ok.ext e1).ext e2).ext e3).ext e4
    obtain ⟨_, vs, hvs, pv⟩ := ok4.obj k _ hk rfl
    obtain ⟨ws, hws, pw⟩ := r
    have e14 := (e2.trans e3).trans e4
    have hN : Nof c ad os (ad k) := Or.inr ⟨k, ⟨_, hk, rfl⟩, rfl⟩
    have hne : ad k ≠ p := fun z => by
      obtain ⟨_, vs0, hvs0, _⟩ := ok.obj k _ hk rfl
      rw [z] at hvs0
      rw [hp] at hvs0
      cases hvs0
    refine ⟨ad k, p, vs, ws, i, j, rfl, rfl, dn_int r3, dn_int r4, hvs, e14 _ _ hws, hne, h0, hij, by rw [Paired.length pv]; exact hjl, by rw [Paired.length pv, Paired.length pw]; exact Nat.le_trans hz (by decide), g ad σ _ (ok4.mut hk rfl rfl ⟨_, upd_same, ?_⟩)⟩
    have p1 : Paired (SvOk c.K (Nof c ad os) ad os.length (upd H4 (ad k) (.lst (vs.take i.toNat ++ ws ++ vs.drop j.toNat)))) vs ss := Paired.imp pv fun _ _ z => z.mut hvs rfl hN
    have p2 : Paired (SvOk c.K (Nof c ad os) ad os.length (upd H4 (ad k) (.lst (vs.take i.toNat ++ ws ++ vs.drop j.toNat)))) ws us := Paired.imp pw fun _ _ z => ((z.ext e14).sub fun a y => Or.inl y).mut hvs rfl hN
    exact paired_app (paired_app (DL.Paired.take _ p1) p2) (DL.Paired.drop _ p1)
end
end DL

set_option Elab.async false
set_option linter.all false
set_option maxRecDepth 100000
set_option maxHeartbeats 2000000
/-! enumerate(zip(a, b)) over two lists. -/
namespace EZ
open PySem PySem.Spec PyProof.Rows L2
section
variable {prog : Program} {w : World} {A : Around} {E : Value → Shared → Prop} {s : Shared}
theorem alive_none {a : Addr} {Q : Option Obj → Shared → Prop} (ho : s.heap.get? a = none) (h : Q none s) : wpAny (model prog w) A (loadIfAlive a) Q E s := by
  intro Γ p hΓ
  show Sem.wp _ _ (.loadIfAlive a .pure) _ _ _ _
  simp only [Sem.wp, ho]
  exact h
/-- the zip's tuple is gone: it may be used again -/
theorem zip_gone {z TI TO T : Addr} {f : Bool} {Q : Bool → Shared → Prop} (hz : IsZipHeld s.heap z TI TO T f) (hT : s.heap.get? T = none) (h : Q true s) : wpAny (model prog w) A (Builtin.SmallTypes.ownedTupleIsFree (.ref z)) Q E s := by
  unfold Builtin.SmallTypes.ownedTupleIsFree
  refine wpAny_bind (wpAny_field hz rfl (x := rawInt T) rfl ?_)
  show wpAny _ _ (loadIfAlive ((T : Int).toNat) >>= _) _ _ _
  rw [Int.toNat_natCast]
  refine wpAny_bind (alive_none hT ?_)
  simp only [Option.isNone_none, if_true]
  exact wpAny_pure h

/-- what the next item of a zip leaves behind -/
def ZOut (h h' : Heap) (z TI TO i1 i2 l1 l2 : Addr) (k1 k2 : Nat) (x y : Value) : Prop :=
  (∃ T f, IsZipHeld h' z TI TO T f) ∧ (∃ a b, IsPair h' TO a b) ∧ h'.IsListIter i1 l1 (k1 + 1) ∧ h'.IsListIter i2 l2 (k2 + 1) ∧ IsPair h' h.objs.size x y ∧ h'.objs.size = h.objs.size + 1 ∧
    ∀ c o, c ≠ z → c ≠ TO → c ≠ i1 → c ≠ i2 → h.get? c = some o → h'.get? c = some o
theorem zip_item_gone {z TI TO T i1 i2 l1 l2 : Addr} {f : Bool} {k1 k2 : Nat} {xs ys : Array Value} {x y a b : Value} {Q : Value → Shared → Prop} (D : ZipApart z TI TO i1 i2 l1 l2)
    (hz : IsZipHeld s.heap z TI TO T f) (hT : s.heap.get? T = none) (hTI : IsPair s.heap TI (.ref i1) (.ref i2)) (hTO : IsPair s.heap TO a b)
    (h1 : s.heap.IsListIter i1 l1 k1) (h2 : s.heap.IsListIter i2 l2 k2) (hl1 : s.heap.IsList l1 xs) (hl2 : s.heap.IsList l2 ys) (hx : xs[k1]? = some x) (hy : ys[k2]? = some y)
    (hQ : ∀ h', ZOut s.heap h' z TI TO i1 i2 l1 l2 k1 k2 x y → Q (.ref s.heap.objs.size) { s with heap := h' }) :
    wpAny (model prog w) A (Builtin.«zip.__next__» ⟨[.ref z], []⟩) (fun fin s' => ∃ v, fin = .done (.ret v) ∧ Q v s') E s := by
  show wpAny _ _ (field (.ref z) 2 >>= _) _ _ _
  refine wpAny_bind (wpAny_field hz rfl (x := .bool false) rfl ?_)
  show wpAny _ _ (field (.ref z) 3 >>= _) _ _ _
  refine wpAny_bind (wpAny_field hz rfl (x := .ref TI) rfl ?_)
  refine wpAny_bind (wpAny_seqItems hTI rfl ?_)
  show wpAny _ _ (Builtin.SmallTypes.ownedTupleIsFree (.ref z) >>= _) _ _ _
  refine wpAny_bind (zip_gone hz hT ?_)
  simp only [if_true]
  refine wpAny_bind (wpAny_rule ?_)
  refine wpAny_bind (wpAny_field hz rfl (x := .ref TO) rfl ?_)
  refine wpAny_bind (wpAny_setField_rec hz (by simp) fun g1 z1 s1 => ?_)
  refine wpAny_bind ?_
  simp only [List.zipIdx_cons, List.zipIdx_nil, List.forIn_cons, List.forIn_nil]
  refine wpAny_bind (wpAny_bind (wpAny_onRaise ?_))
  show wpAny _ _ (Builtin.SmallTypes.nextOf (.ref i1) >>= _) _ _ _
  refine wpAny_bind (wpAny_nextOf_list_item (h1.extBut s1.extBut D.i1z) (hl1.extBut s1.extBut D.l1z) hx fun g2 q2 s2 => wpAny_pure ?_)
  have t2 : IsPair g2 TO a b := s2.extBut _ _ D.TOi1 (s1.extBut _ _ D.TOz hTO)
  refine wpAny_bind (wpAny_seqItems t2 rfl ?_)
  refine wpAny_bind (wpAny_updateSeq_pair t2 fun g3 t3 s3 => ?_)
  replace t3 : IsPair g3 TO x b := t3
  refine wpAny_bind (wpAny_letGo (wpAny_pure ?_))
  refine wpAny_bind (wpAny_bind (wpAny_onRaise ?_))
  show wpAny _ _ (Builtin.SmallTypes.nextOf (.ref i2) >>= _) _ _ _
  refine wpAny_bind (wpAny_nextOf_list_item (((h2.extBut s1.extBut D.i2z).extBut s2.extBut D.i12.symm).extBut s3.extBut D.TOi2.symm) (((hl2.extBut s1.extBut D.l2z).extBut s2.extBut D.l2i1).extBut s3.extBut D.l2TO) hy fun g4 q4 s4 => wpAny_pure ?_)
  have t4 : IsPair g4 TO x b := s4.extBut _ _ D.TOi2 t3
  refine wpAny_bind (wpAny_seqItems t4 rfl ?_)
  refine wpAny_bind (wpAny_updateSeq_pair t4 fun g5 t5 s5 => ?_)
  replace t5 : IsPair g5 TO x y := t5
  refine wpAny_bind (wpAny_letGo (wpAny_pure (wpAny_pure ?_)))
  refine wpAny_bind (wpAny_seqItems t5 rfl ?_)
  refine wpAny_bind (wpAny_newTuple ?_)
  have sz : g5.objs.size = s.heap.objs.size := by rw [s5.1, s4.1, s3.1, s2.1, s1.1]
  have k5 : ∀ c o, c ≠ z → c ≠ TO → c ≠ i1 → c ≠ i2 → s.heap.get? c = some o → g5.get? c = some o := fun c o c1 c2 c3 c4 e => s5.extBut _ _ c2 (s4.extBut _ _ c4 (s3.extBut _ _ c2 (s2.extBut _ _ c3 (s1.extBut _ _ c1 e))))
  have r1 : g5.IsListIter i1 l1 (k1 + 1) := ((q2.extBut s3.extBut D.TOi1.symm).extBut s4.extBut D.i12).extBut s5.extBut D.TOi1.symm
  have r2 : g5.IsListIter i2 l2 (k2 + 1) := q4.extBut s5.extBut D.TOi2.symm
  have z5 := s5.extBut _ _ D.TOz.symm (s4.extBut _ _ D.i2z.symm (s3.extBut _ _ D.TOz.symm (s2.extBut _ _ D.i1z.symm z1)))
  have zl : z < g5.objs.size := Heap.lt_size z5
  refine wpAny_bind ?_
  show wpAny _ _ (Builtin.SmallTypes.ownedTupleHandOut (.ref z) (.ref g5.objs.size)) _ _ _
  unfold Builtin.SmallTypes.ownedTupleHandOut
  have z6 := Heap.get?_push_of_some (o := { cls := .type "tuple", data := .seq #[x, y] }) z5
  refine wpAny_bind (wpAny_setField_rec z6 (by simp) fun g7 z7 s7 => ?_)
  refine wpAny_setField_rec z7 (by simp) fun g8 z8 s8 => ?_
  have up : ∀ c o, c ≠ z → g5.get? c = some o → g8.get? c = some o := fun c o c1 e => s8.extBut _ _ c1 (s7.extBut _ _ c1 (Heap.get?_push_of_some _ e))
  have p8 : IsPair g8 g5.objs.size x y := s8.extBut _ _ (Nat.ne_of_gt zl) (s7.extBut _ _ (Nat.ne_of_gt zl) (Heap.get?_push_size _ rfl))
  have e8 : g8.objs.size = g5.objs.size + 1 := by rw [s8.1, s7.1, Heap.size_push]
  have z9 : IsZipHeld g8 z TI TO g5.objs.size false := z8
  refine wpAny_pure ⟨_, rfl, ?_⟩
  show Q (.ref g5.objs.size) _
  rw [sz] at p8 e8 z9 ⊢
  exact hQ g8 ⟨⟨_, _, z9⟩, ⟨_, _, up _ _ D.TOz t5⟩, r1.at fun o e => up _ o D.i1z e, r2.at fun o e => up _ o D.i2z e, p8, e8, fun c o c1 c2 c3 c4 e => up c o c1 (k5 c o c1 c2 c3 c4 e)⟩
/-- a zip in any state between its items -/
def ZSt (h : Heap) (z TI TO : Addr) : Prop := IsZip h z TI TO .none ∨ ∃ T f, IsZipHeld h z TI TO T f
theorem zip_item {z TI TO i1 i2 l1 l2 : Addr} {k1 k2 : Nat} {xs ys : Array Value} {x y a b : Value} {Q : Value → Shared → Prop} (D : ZipApart z TI TO i1 i2 l1 l2)
    (hz : ZSt s.heap z TI TO) (hTI : IsPair s.heap TI (.ref i1) (.ref i2)) (hTO : IsPair s.heap TO a b)
    (h1 : s.heap.IsListIter i1 l1 k1) (h2 : s.heap.IsListIter i2 l2 k2) (hl1 : s.heap.IsList l1 xs) (hl2 : s.heap.IsList l2 ys) (hx : xs[k1]? = some x) (hy : ys[k2]? = some y)
    (hQ : ∀ h', ZOut s.heap h' z TI TO i1 i2 l1 l2 k1 k2 x y → Q (.ref s.heap.objs.size) { s with heap := h' }) :
    wpAny (model prog w) A (Builtin.«zip.__next__» ⟨[.ref z], []⟩) (fun fin s' => ∃ v, fin = .done (.ret v) ∧ Q v s') E s := by
  rcases hz with hz | ⟨T, f, hz⟩
  · exact zip_next_item D hz hTI hTO h1 h2 hl1 hl2 hx hy fun h' a1 a2 a3 a4 a5 a6 hk => hQ h' ⟨⟨_, _, a1⟩, ⟨_, _, a2⟩, a3, a4, a5, a6, hk⟩
  · cases hT : s.heap.get? T with
    | none => exact zip_item_gone D hz hT hTI hTO h1 h2 hl1 hl2 hx hy hQ
    | some oT => exact zip_next_item_held D hz hT hTI h1 h2 hl1 hl2 hx hy fun h' a1 a3 a4 a5 a6 hk => hQ h' ⟨⟨_, _, a1⟩, ⟨_, _, hk _ _ D.TOz D.TOi1 D.TOi2 hTO⟩, a3, a4, a5, a6, fun c o c1 _ c3 c4 e => hk c o c1 c3 c4 e⟩
theorem zip_end_gone {z TI TO T i1 i2 l1 l2 : Addr} {f : Bool} {k1 k2 : Nat} {xs ys : Array Value} {a b : Value} {Q : PySem.Fin → Shared → Prop} (hh : A.handled = none) (D : ZipApart z TI TO i1 i2 l1 l2)
    (hz : IsZipHeld s.heap z TI TO T f) (hT : s.heap.get? T = none) (hTI : IsPair s.heap TI (.ref i1) (.ref i2)) (hTO : IsPair s.heap TO a b)
    (h1 : s.heap.IsListIter i1 l1 k1) (h2 : s.heap.IsListIter i2 l2 k2) (hl1 : s.heap.IsList l1 xs) (hl2 : s.heap.IsList l2 ys) (hend : xs[k1]? = none ∨ ys[k2]? = none)
    (hE : ∀ h' e, (∀ c o, c ≠ z → c ≠ TO → c ≠ i1 → c ≠ i2 → s.heap.get? c = some o → h'.get? c = some o) → (∃ o, h'.get? e = some o ∧ o.cls = .type "StopIteration") → E (.ref e) { s with heap := h' }) :
    wpAny (model prog w) A (Builtin.«zip.__next__» ⟨[.ref z], []⟩) Q E s := by
  show wpAny _ _ (field (.ref z) 2 >>= _) _ _ _
  refine wpAny_bind (wpAny_field hz rfl (x := .bool false) rfl ?_)
  show wpAny _ _ (field (.ref z) 3 >>= _) _ _ _
  refine wpAny_bind (wpAny_field hz rfl (x := .ref TI) rfl ?_)
  refine wpAny_bind (wpAny_seqItems hTI rfl ?_)
  show wpAny _ _ (Builtin.SmallTypes.ownedTupleIsFree (.ref z) >>= _) _ _ _
  refine wpAny_bind (zip_gone hz hT ?_)
  simp only [if_true]
  refine wpAny_bind (wpAny_rule ?_)
  refine wpAny_bind (wpAny_field hz rfl (x := .ref TO) rfl ?_)
  refine wpAny_bind (wpAny_setField_rec hz (by simp) fun g1 z1 s1 => ?_)
  refine wpAny_bind ?_
  simp only [List.zipIdx_cons, List.zipIdx_nil, List.forIn_cons, List.forIn_nil]
  refine wpAny_bind (wpAny_bind (wpAny_onRaise ?_))
  show wpAny _ _ (Builtin.SmallTypes.nextOf (.ref i1) >>= _) _ _ _
  cases hx : xs[k1]? with
  | none =>
    refine wpAny_bind (wpAny_nextOf_list_end hh (h1.extBut s1.extBut D.i1z) (hl1.extBut s1.extBut D.l1z) hx fun g2 e s2 he => ?_)
    obtain ⟨oe, hoe, hce⟩ := he
    have z2 := s2 _ _ D.i1z.symm z1
    have hez : e ≠ z := fun x => by subst x; rw [z2] at hoe; cases hoe; simp at hce
    refine wpAny_setField_rec z2 (by simp) fun g3 _ s3 => hE g3 e (fun c o c1 _ c3 _ x => s3.extBut _ _ c1 (s2 _ _ c3 (s1.extBut _ _ c1 x))) ⟨oe, s3.extBut _ _ hez hoe, hce⟩
  | some x =>
    have hy : ys[k2]? = none := by rcases hend with h | h; rw [hx] at h; cases h; exact h
    refine wpAny_bind (wpAny_nextOf_list_item (h1.extBut s1.extBut D.i1z) (hl1.extBut s1.extBut D.l1z) hx fun g2 q2 s2 => wpAny_pure ?_)
    have t2 : IsPair g2 TO a b := s2.extBut _ _ D.TOi1 (s1.extBut _ _ D.TOz hTO)
    refine wpAny_bind (wpAny_seqItems t2 rfl ?_)
    refine wpAny_bind (wpAny_updateSeq_pair t2 fun g3 t3 s3 => ?_)
    refine wpAny_bind (wpAny_letGo (wpAny_pure ?_))
    refine wpAny_bind (wpAny_bind (wpAny_onRaise ?_))
    show wpAny _ _ (Builtin.SmallTypes.nextOf (.ref i2) >>= _) _ _ _
    refine wpAny_bind (wpAny_nextOf_list_end hh (((h2.extBut s1.extBut D.i2z).extBut s2.extBut D.i12.symm).extBut s3.extBut D.TOi2.symm)
      (((hl2.extBut s1.extBut D.l2z).extBut s2.extBut D.l2i1).extBut s3.extBut D.l2TO) hy fun g4 e s4 he => ?_)
    obtain ⟨oe, hoe, hce⟩ := he
    have z4 := s4 _ _ D.i2z.symm (s3.extBut _ _ D.TOz.symm (s2.extBut _ _ D.i1z.symm z1))
    have hez : e ≠ z := fun x => by subst x; rw [z4] at hoe; cases hoe; simp at hce
    refine wpAny_setField_rec z4 (by simp) fun g5 _ s5 => hE g5 e (fun c o c1 c2 c3 c4 x => s5.extBut _ _ c1 (s4 _ _ c4 (s3.extBut _ _ c2 (s2.extBut _ _ c3 (s1.extBut _ _ c1 x))))) ⟨oe, s5.extBut _ _ hez hoe, hce⟩
theorem zip_end {z TI TO i1 i2 l1 l2 : Addr} {k1 k2 : Nat} {xs ys : Array Value} {a b : Value} {Q : PySem.Fin → Shared → Prop} (hh : A.handled = none) (D : ZipApart z TI TO i1 i2 l1 l2)
    (hz : ZSt s.heap z TI TO) (hTI : IsPair s.heap TI (.ref i1) (.ref i2)) (hTO : IsPair s.heap TO a b)
    (h1 : s.heap.IsListIter i1 l1 k1) (h2 : s.heap.IsListIter i2 l2 k2) (hl1 : s.heap.IsList l1 xs) (hl2 : s.heap.IsList l2 ys) (hend : xs[k1]? = none ∨ ys[k2]? = none)
    (hE : ∀ h' e, (∀ c o, c ≠ z → c ≠ TO → c ≠ i1 → c ≠ i2 → s.heap.get? c = some o → h'.get? c = some o) → (∃ o, h'.get? e = some o ∧ o.cls = .type "StopIteration") → E (.ref e) { s with heap := h' }) :
    wpAny (model prog w) A (Builtin.«zip.__next__» ⟨[.ref z], []⟩) Q E s := by
  rcases hz with hz | ⟨T, f, hz⟩
  · exact zip_next_end hh D hz hTI hTO h1 h2 hl1 hl2 hend hE
  · cases hT : s.heap.get? T with
    | none => exact zip_end_gone hh D hz hT hTI hTO h1 h2 hl1 hl2 hend hE
    | some oT => exact zip_next_end_held hh D hz hT hTI h1 h2 hl1 hl2 hend fun h' e hk he => hE h' e (fun c o c1 _ c3 c4 x => hk c o c1 c3 c4 x) he
theorem zst_type {z TI TO : Addr} (hz : ZSt s.heap z TI TO) : s.TypeIs (.ref z) "zip" := by
  rcases hz with hz | ⟨T, f, hz⟩
  · exact ⟨_, hz, rfl⟩
  · exact ⟨_, hz, rfl⟩
theorem nextOf_zip_item {z TI TO i1 i2 l1 l2 : Addr} {k1 k2 : Nat} {xs ys : Array Value} {x y a b : Value} {Q : Value → Shared → Prop} (D : ZipApart z TI TO i1 i2 l1 l2)
    (hz : ZSt s.heap z TI TO) (hTI : IsPair s.heap TI (.ref i1) (.ref i2)) (hTO : IsPair s.heap TO a b)
    (h1 : s.heap.IsListIter i1 l1 k1) (h2 : s.heap.IsListIter i2 l2 k2) (hl1 : s.heap.IsList l1 xs) (hl2 : s.heap.IsList l2 ys) (hx : xs[k1]? = some x) (hy : ys[k2]? = some y)
    (hQ : ∀ h', ZOut s.heap h' z TI TO i1 i2 l1 l2 k1 k2 x y → Q (.ref s.heap.objs.size) { s with heap := h' }) : wpAny (model prog w) A (Builtin.SmallTypes.nextOf (.ref z)) Q E s := by
  unfold Builtin.SmallTypes.nextOf
  exact wpAny_bind (wpAny_callSpecial?_slot (name := Str.ofString "__next__") (zst_type hz) F.slot_zip_next (wpAny_call_entry F.slot_zip_next (zst_type hz) F.entry_zip_next
    (zip_item D hz hTI hTO h1 h2 hl1 hl2 hx hy fun h' o => wpAny_pure (hQ h' o)) (F.args_zip_next_1 _)))
theorem nextOf_zip_end {z TI TO i1 i2 l1 l2 : Addr} {k1 k2 : Nat} {xs ys : Array Value} {a b : Value} {Q : Value → Shared → Prop} (hh : A.handled = none) (D : ZipApart z TI TO i1 i2 l1 l2)
    (hz : ZSt s.heap z TI TO) (hTI : IsPair s.heap TI (.ref i1) (.ref i2)) (hTO : IsPair s.heap TO a b)
    (h1 : s.heap.IsListIter i1 l1 k1) (h2 : s.heap.IsListIter i2 l2 k2) (hl1 : s.heap.IsList l1 xs) (hl2 : s.heap.IsList l2 ys) (hend : xs[k1]? = none ∨ ys[k2]? = none)
    (hE : ∀ h' e, (∀ c o, c ≠ z → c ≠ TO → c ≠ i1 → c ≠ i2 → s.heap.get? c = some o → h'.get? c = some o) → (∃ o, h'.get? e = some o ∧ o.cls = .type "StopIteration") → E (.ref e) { s with heap := h' }) : wpAny (model prog w) A (Builtin.SmallTypes.nextOf (.ref z)) Q E s := by
  unfold Builtin.SmallTypes.nextOf
  exact wpAny_bind (wpAny_callSpecial?_slot (name := Str.ofString "__next__") (zst_type hz) F.slot_zip_next (wpAny_call_entry F.slot_zip_next (zst_type hz) F.entry_zip_next
    (zip_end hh D hz hTI hTO h1 h2 hl1 hl2 hend hE) (F.args_zip_next_1 _)))
/-- the next pair of an enumerate over an iterator whose item is told by R -/
theorem enum_item {e it : Addr} {c : Int} {old : Value} {R : Value → Heap → Prop} {Q : Value → Shared → Prop} (he : IsEnum s.heap e it c old)
    (hin : ∀ (E : Value → Shared → Prop) (Q : Value → Shared → Prop), (∀ x h1, IsEnum h1 e it c old → R x h1 → Q x { s with heap := h1 }) → wpAny (model prog w) A (Builtin.SmallTypes.nextOf (.ref it)) Q E s)
    (hQ : ∀ x h1 h', R x h1 → IsEnumOut h' e it (c + 1) x h1.objs.size → h'.get? h1.objs.size = some { cls := .type "tuple", data := .seq #[.int c s.toks, x] } → h'.objs.size = h1.objs.size + 1 →
      (∀ b o, b ≠ e → h1.get? b = some o → h'.get? b = some o) → Q (.ref h1.objs.size) { s with heap := h', toks := s.toks + 1 }) :
    wpAny (model prog w) A (Builtin.«enumerate.__next__» ⟨[.ref e], []⟩) (fun fin s' => ∃ v, fin = .done (.ret v) ∧ Q v s') E s := by
  obtain ⟨hp, g, d, tk, os⟩ := s
  show wpAny _ _ (field (.ref e) 2 >>= _) _ _ _
  refine wpAny_bind (wpAny_field he rfl (x := .ref it) rfl ?_)
  refine wpAny_bind (hin _ _ fun x h1 he1 r => ?_)
  show wpAny _ _ (field (.ref e) 3 >>= _) _ _ ⟨h1, g, d, tk, os⟩
  refine wpAny_bind (wpAny_field he1 rfl (x := rawInt c) rfl ?_)
  show wpAny _ _ (field (.ref e) 4 >>= _) _ _ ⟨h1, g, d, tk, os⟩
  refine wpAny_bind (wpAny_field he1 rfl (x := .none) rfl ?_)
  show wpAny _ _ (mkInt c >>= _) _ _ ⟨h1, g, d, tk, os⟩
  refine wpAny_bind (wpAny_mkInt ?_)
  show wpAny _ _ (setField (.ref e) 3 (rawInt (c + 1)) >>= _) _ _ ⟨h1, g, d, tk + 1, os⟩
  refine wpAny_bind (wpAny_setField_rec he1 (by simp) fun g2 e2 s2 => ?_)
  replace s2 : Heap.SameBut e h1 g2 := s2
  replace e2 : IsEnum g2 e it (c + 1) old := e2
  show wpAny _ _ (setField (.ref e) 4 .none >>= _) _ _ ⟨g2, g, d, tk + 1, os⟩
  refine wpAny_bind (wpAny_setField_rec e2 (by simp) fun g3 e3 s3 => ?_)
  replace s3 : Heap.SameBut e g2 g3 := s3
  replace e3 : IsEnum g3 e it (c + 1) old := e3
  show wpAny _ _ (newTuple [.int c tk, x] >>= _) _ _ ⟨g3, g, d, tk + 1, os⟩
  refine wpAny_bind (wpAny_newTuple ?_)
  have sz : g3.objs.size = h1.objs.size := by rw [s3.1, s2.1]
  have e4 : IsEnum (g3.push { cls := .type "tuple", data := .seq #[.int c tk, x] }) e it (c + 1) old := Heap.get?_push_of_some _ e3
  have t4 : (g3.push { cls := .type "tuple", data := .seq #[.int c tk, x] }).get? g3.objs.size = some { cls := .type "tuple", data := .seq #[.int c tk, x] } := Heap.get?_push_size _ rfl
  have z4 : (g3.push { cls := .type "tuple", data := .seq #[.int c tk, x] }).objs.size = g3.objs.size + 1 := Heap.size_push ..
  have k4 : ∀ b o, b ≠ e → h1.get? b = some o → (g3.push { cls := .type "tuple", data := .seq #[.int c tk, x] }).get? b = some o := fun b o hb y => Heap.get?_push_of_some _ (s3.extBut b o hb (s2.extBut b o hb y))
  have el : e < h1.objs.size := Heap.lt_size he1
  rw [sz] at t4 z4 ⊢
  generalize g3.push { cls := .type "tuple", data := .seq #[.int c tk, x] } = g4 at e4 t4 z4 k4 ⊢
  show wpAny _ _ (Builtin.SmallTypes.ownedTupleIsFree (.ref e) >>= _) _ _ ⟨g4, g, d, tk + 1, os⟩
  refine wpAny_bind ?_
  unfold Builtin.SmallTypes.ownedTupleIsFree
  refine wpAny_bind (wpAny_field e4 rfl (x := .none) rfl (wpAny_pure ?_))
  simp only [if_true]
  refine wpAny_bind (wpAny_rule ?_)
  refine wpAny_bind (wpAny_field e4 rfl (x := old) rfl ?_)
  refine wpAny_bind (wpAny_setField_rec e4 (by simp) fun g5 e5 s5 => ?_)
  replace s5 : Heap.SameBut e g4 g5 := s5
  replace e5 : IsEnum g5 e it (c + 1) x := e5
  show wpAny _ _ (Builtin.SmallTypes.ownedTupleHandOut (.ref e) (.ref h1.objs.size) >>= _) _ _ ⟨g5, g, d, tk + 1, os⟩
  refine wpAny_bind ?_
  unfold Builtin.SmallTypes.ownedTupleHandOut
  refine wpAny_bind (wpAny_setField_rec e5 (by simp) fun g6 e6 s6 => ?_)
  replace s6 : Heap.SameBut e g5 g6 := s6
  replace e6 : IsEnumOut g6 e it (c + 1) x h1.objs.size := e6
  refine wpAny_setField_rec e6 (by simp) fun g7 e7 s7 => ?_
  replace s7 : Heap.SameBut e g6 g7 := s7
  replace e7 : IsEnumOut g7 e it (c + 1) x h1.objs.size := e7
  have up : ∀ b o, b ≠ e → g4.get? b = some o → g7.get? b = some o := fun b o hb y => s7.extBut b o hb (s6.extBut b o hb (s5.extBut b o hb y))
  refine wpAny_bind (wpAny_letGo (wpAny_pure ⟨_, rfl, hQ x h1 g7 r e7 (up _ _ (Nat.ne_of_gt el) t4) ?_ fun b o hb y => up b o hb (k4 b o hb y)⟩))
  rw [s7.1, s6.1, s5.1, z4]
end
end EZ
namespace L2
open PySem PySem.Spec PyProof.Rows EZ
/-- the lists at a and b as they stand at each turn: a new pair of the number and a new pair of the items -/
def Itez (K : PySem.W.Frag) (a b : Addr) : It :=
  ⟨fun i H => ∃ (xs ys : List V) (x y : V), SqL K H a xs ∧ SqL K H b ys ∧ xs[i]? = some x ∧ ys[i]? = some y,
    fun i H v H' => ∃ (T T2 : Addr) (x y : V), v = .ref T ∧ H T2 = none ∧ upd H T2 (.tup [x, y]) T = none ∧ H' = upd (upd H T2 (.tup [x, y])) T (.tup [.int (i : Nat), .ref T2]) ∧ (∀ xs, SqL K H a xs → xs[i]? = some x) ∧ ∀ ys, SqL K H b ys → ys[i]? = some y,
    fun i H => ∃ xs ys : List V, SqL K H a xs ∧ SqL K H b ys ∧ (xs.length ≤ i ∨ ys.length ≤ i)⟩
def EzSt (e z TI TO i1 i2 a b : Addr) (i : Nat) (h : Heap) : Prop :=
  (∃ old, IsEnum h e z ((i : Nat) : Int) old) ∧ ZSt h z TI TO ∧ IsPair h TI (.ref i1) (.ref i2) ∧ (∃ x y, IsPair h TO x y) ∧ h.IsListIter i1 a i ∧ h.IsListIter i2 b i
theorem turn_ez {P : Program} {w : World} {K : PySem.W.Frag} {elts : List Expr} {kk : Nat} {tpos : Pos} {a b e z TI TO i1 i2 : Addr} (D : ZipApart z TI TO i1 i2 a b) (ez : e ≠ z) (eTI : e ≠ TI) (eTO : e ≠ TO) (e1 : e ≠ i1) (e2 : e ≠ i2) :
    Turn P w K (.Tuple elts kk tpos) (Itez K a b) [e, z, TI, TO, i1, i2] e (EzSt e z TI TO i1 i2 a b) where
  mem := by simp
  obj := fun i h st c hc => by
    obtain ⟨⟨old, he⟩, hz, hTI, ⟨x, y, hTO⟩, ⟨o1, q1, _, d1⟩, ⟨o2, q2, _, d2⟩⟩ := st
    have e' : c = e ∨ c = z ∨ c = TI ∨ c = TO ∨ c = i1 ∨ c = i2 := by simpa using hc
    rcases e' with q | q | q | q | q | q
    · rw [q]; exact ⟨_, he, fun v q => nomatch q⟩
    · rw [q]
      rcases hz with hz | ⟨T, f, hz⟩
      · exact ⟨_, hz, fun v q => nomatch q⟩
      · exact ⟨_, hz, fun v q => nomatch q⟩
    · rw [q]; exact ⟨_, hTI, fun v q => nomatch q⟩
    · rw [q]; exact ⟨_, hTO, fun v q => nomatch q⟩
    · rw [q]; exact ⟨o1, q1, fun v q => by rw [d1] at q; cases q⟩
    · rw [q]; exact ⟨o2, q2, fun v q => by rw [d2] at q; cases q⟩
  keep := fun i h h' st k => by
    obtain ⟨⟨old, he⟩, hz, hTI, ⟨x, y, hTO⟩, h1, h2⟩ := st
    refine ⟨⟨old, k e (by simp) _ he⟩, ?_, k TI (by simp) _ hTI, ⟨x, y, k TO (by simp) _ hTO⟩, h1.at fun o q => k i1 (by simp) o q, h2.at fun o q => k i2 (by simp) o q⟩
    rcases hz with hz | ⟨T, f, hz⟩
    · exact Or.inl (k z (by simp) _ hz)
    · exact Or.inr ⟨T, f, k z (by simp) _ hz⟩
  item := by
    intro X hP hw hK hc i pins s σ H E I hf st hg
    subst hP hw hK
    obtain ⟨⟨old, he⟩, hz, hTI, ⟨x0, y0, hTO⟩, h1, h2⟩ := st
    obtain ⟨xs, ys, x, y, hqx, hqy, hx, hy⟩ := hg
    obtain ⟨its, rv, p, _⟩ := I.list hqx
    obtain ⟨its2, rv2, p2, _⟩ := I.list hqy
    obtain ⟨u, hu, ru⟩ := rv.get hx
    obtain ⟨u2, hu2, ru2⟩ := rv2.get hy
    have hel : e < s.heap.objs.size := Heap.lt_size he
    unfold pyNext
    refine wpAny_bind (wpAny_attempt (wpAny_callSpecial?_slot (name := Str.ofString "__next__") ⟨_, he, rfl⟩ F.slot_enumerate_next (wpAny_call_entry F.slot_enumerate_next ⟨_, he, rfl⟩ F.entry_enumerate_next
      (enum_item (R := fun v h1 => v = .ref s.heap.objs.size ∧ ZOut s.heap h1 z TI TO i1 i2 a b i i u u2) he (fun E Q q => nextOf_zip_item D hz hTI hTO h1 h2 p.isList p2.isList (x := u) (y := u2) (by simpa using hu) (by simpa using hu2) fun h' o => q _ h' (o.2.2.2.2.2.2 e _ ez eTO e1 e2 he) ⟨rfl, o⟩) ?_) (F.args_enumerate_next_1 _))))
    rintro v g1 g2 ⟨rfl, ⟨T', f', z'⟩, ⟨a', b', TO'⟩, h1', h2', hT, hsz, hk⟩ ho hT2 hsz2 hk2
    refine wpAny_pure ⟨_, rfl, wpAny_letOwnedTupleGo_enum (s := { s with heap := g2, toks := s.toks + 1 }) ho fun g3 he' sb => ?_⟩
    have e3l : e < g1.objs.size := by rw [hsz]; exact Nat.lt_succ_of_lt hel
    have k23 : ∀ c o, c ≠ e → g1.get? c = some o → g3.get? c = some o := fun c o hc q => sb.extBut c o hc (hk2 c o hc q)
    have hT3 : g3.get? g1.objs.size = some { cls := .type "tuple", data := .seq #[.int i s.toks, .ref s.heap.objs.size] } := sb.extBut _ _ (Nat.ne_of_gt e3l) hT2
    have new1 : ObjOk X.prog X.w (upd H s.heap.objs.size (.tup [x, y])) g1 s.heap.objs.size (.tup [x, y]) :=
      ⟨by show 2 ≤ sizeLine; decide, [u, u2], .cons ru (.cons ru2 .nil), ⟨_, hT, rfl, _, rfl⟩⟩
    have I1 : Inv X pins σ (upd H s.heap.objs.size (.tup [x, y])) { s with heap := g1 } :=
      I.turnedNew (t' := s.toks) (ch := [z, TO, i1, i2]) (fun c o hb q => hk c o (fun q' => hb (by simp [q'])) (fun q' => hb (by simp [q'])) (fun q' => hb (by simp [q'])) (fun q' => hb (by simp [q'])) q)
        (fun c hc => hf c (by simp at hc ⊢; rcases hc with q | q | q | q <;> simp [q])) (Nat.le_refl _) new1
    have new2 : ObjOk X.prog X.w (upd (upd H s.heap.objs.size (.tup [x, y])) g1.objs.size (.tup [.int (i : Nat), .ref s.heap.objs.size])) g3 g1.objs.size (.tup [.int (i : Nat), .ref s.heap.objs.size]) :=
      ⟨by show 2 ≤ sizeLine; decide, [.int i s.toks, .ref s.heap.objs.size], .cons ⟨_, rfl⟩ (.cons rfl .nil), ⟨_, hT3, rfl, _, rfl⟩⟩
    have fe : FpOk X pins (upd H s.heap.objs.size (.tup [x, y])) e := ⟨by rw [upd_ne (Nat.ne_of_lt hel)]; exact (hf e (by simp)).1, (hf e (by simp)).2⟩
    have I2 : Inv X pins σ (upd (upd H s.heap.objs.size (.tup [x, y])) g1.objs.size (.tup [.int (i : Nat), .ref s.heap.objs.size])) { s with heap := g3, toks := s.toks + 1 } :=
      I1.turnedNew (ch := [e]) (fun c o hb q => k23 c o (fun q' => hb (by simp [q'])) q) (fun c hc => by rw [List.mem_singleton.mp hc]; exact fe) (Nat.le_refl _) new2
    refine ⟨.ref g1.objs.size, _, I2, rfl, ⟨g1.objs.size, s.heap.objs.size, x, y, rfl, I.hok.fresh (Nat.le_refl _), I1.hok.fresh (Nat.le_refl _), rfl, fun l hl => by rw [I.list_inj hl hqx]; exact hx, fun l hl => by rw [I.list_inj hl hqy]; exact hy⟩,
      ⟨⟨.ref s.heap.objs.size, ?_⟩, Or.inr ⟨T', f', k23 _ _ (Ne.symm ez) z'⟩, k23 _ _ (Ne.symm eTI) (hk _ _ D.TIz D.TITO D.TIi1 D.TIi2 hTI), ⟨a', b', k23 _ _ (Ne.symm eTO) TO'⟩, h1'.at fun o q => k23 _ o (Ne.symm e1) q, h2'.at fun o q => k23 _ o (Ne.symm e2) q⟩, fun c hcm => ?_⟩
    · have ee : ((i + 1 : Nat) : Int) = (i : Int) + 1 := by omega
      rw [ee]; exact he'
    · have hlt : c < s.heap.objs.size := by
        have e' : c = e ∨ c = z ∨ c = TI ∨ c = TO ∨ c = i1 ∨ c = i2 := by simpa using hcm
        rcases e' with q | q | q | q | q | q
        · rw [q]; exact hel
        · rw [q]
          rcases hz with hz | ⟨T, f, hz⟩
          · exact Heap.lt_size hz
          · exact Heap.lt_size hz
        · rw [q]; exact Heap.lt_size hTI
        · rw [q]; exact Heap.lt_size hTO
        · rw [q]; obtain ⟨_, q1, _⟩ := h1; exact Heap.lt_size q1
        · rw [q]; obtain ⟨_, q2, _⟩ := h2; exact Heap.lt_size q2
      rw [upd_ne (Nat.ne_of_lt (show c < g1.objs.size by rw [hsz]; exact Nat.lt_succ_of_lt hlt)), upd_ne (Nat.ne_of_lt hlt)]
      exact (hf c hcm).1
  done := by
    intro X hP hw hK hc i pins s σ H E I hf st hg
    subst hP hw hK
    obtain ⟨⟨old, he⟩, hz, hTI, ⟨x0, y0, hTO⟩, h1, h2⟩ := st
    obtain ⟨xs, ys, hqx, hqy, hend⟩ := hg
    obtain ⟨its, rv, p, _⟩ := I.list hqx
    obtain ⟨its2, rv2, p2, _⟩ := I.list hqy
    have l1 := rv.length
    have l2 := rv2.length
    have hh : its.toArray[i]? = none ∨ its2.toArray[i]? = none := by
      rcases hend with q | q
      · exact .inl (by simp; omega)
      · exact .inr (by simp; omega)
    unfold pyNext
    refine wpAny_bind (wpAny_attempt (wpAny_callSpecial?_slot (name := Str.ofString "__next__") ⟨_, he, rfl⟩ F.slot_enumerate_next (wpAny_call_entry F.slot_enumerate_next ⟨_, he, rfl⟩ F.entry_enumerate_next ?_ (F.args_enumerate_next_1 _))))
    show wpAny _ _ (field (.ref e) 2 >>= _) _ _ _
    refine wpAny_bind (wpAny_field he rfl (x := .ref z) rfl ?_)
    refine wpAny_bind (nextOf_zip_end (I.ok.hd hc) D hz hTI hTO h1 h2 p.isList p2.isList hh fun h' ex hk hx' => ?_)
    obtain ⟨o, ho, hcl⟩ := hx'
    refine wpAny_bind (wpAny_isInstance (T := "StopIteration") (b := true) ⟨o, ho, hcl⟩ isSubtype_stop ?_)
    exact wpAny_pure ⟨rfl, I.turnedL (t' := s.toks) (ch := [z, TO, i1, i2]) (fun c o hb q => hk c o (fun q' => hb (by simp [q'])) (fun q' => hb (by simp [q'])) (fun q' => hb (by simp [q'])) (fun q' => hb (by simp [q'])) q)
      (fun c hc => hf c (by simp at hc ⊢; rcases hc with q | q | q | q <;> simp [q]))⟩
  self := fun A i s Q E st h => let ⟨⟨_, he⟩, _⟩ := st; wpAny_pyIter_enum he h
end L2
namespace L2
open PySem PySem.Spec PyProof.Rows EZ
set_option maxHeartbeats 1000000 in
theorem meets_enum_zip (z TI TO : Addr) :
    Meets (Builtin.«enumerate.__new__» ⟨[.type "enumerate", .ref z], []⟩) (fun _ R s => IsZip s.heap z TI TO .none ∧
      R (.ok (.ret (.ref s.heap.objs.size))) { s with heap := s.heap.push { cls := .type "enumerate", data := .fields #[.none, .bool false, .ref z, rawInt 0, .none, .none] } }) :=
  .of_wp fun prog w A R s h => by
    obtain ⟨hp, g, d, tk, os⟩ := s
    obtain ⟨hz, h⟩ := h
    have hsub := sub_enumerate
    have hz' : IsZip (Shared.heap ⟨hp, g, d, tk, os⟩) z TI TO .none := hz
    wp_walk
    refine wpAny_stack_any fun st => wpAny_pure ?_
    split
    · rename_i c _ _ _ _ _
      cases (c == Value.type "enumerate")
      · wp_walk using wpAny_pyIter_zip hz'
        exact ⟨_, rfl, h⟩
      · wp_walk using wpAny_pyIter_zip hz'
        exact ⟨_, rfl, h⟩
    · wp_walk using wpAny_pyIter_zip hz'
      exact ⟨_, rfl, h⟩
theorem call_enum_zip {prog : Program} {w : World} {A : Around} {E : Value → Shared → Prop} {s : Shared} {z TI TO : Addr} {Q : Value → Shared → Prop} (hz : IsZip s.heap z TI TO .none)
    (h : ∀ h', IsEnum h' s.heap.objs.size z 0 .none → (∀ b o, s.heap.get? b = some o → h'.get? b = some o) → Q (.ref s.heap.objs.size) { s with heap := h' }) :
    wpAny (model prog w) A (call (.type "enumerate") [.ref z]) Q E s := by
  refine callType_new F.called_enumerate (by decide) (F.typeCall_enumerate_1 _) (F.newCall_enumerate_1 _) (fun obj => F.args_object_init_2 obj _) F.entry_enumerate_new (meets_enum_zip z TI TO) ⟨hz, ?_⟩
  have he : IsEnum (s.heap.push { cls := .type "enumerate", data := .fields #[.none, .bool false, .ref z, rawInt 0, .none, .none] }) s.heap.objs.size z 0 .none := Heap.get?_push_size _ rfl
  exact ⟨⟨_, he, rfl⟩, h _ he fun b o x => Heap.get?_push_of_some _ x⟩
def iEZ (K : PySem.W.Frag) (ta : TA) : TI := fun σ H R => ta σ H fun vs H1 => ∃ a b xs ys, vs = [.ref a, .ref b] ∧ SqL K H1 a xs ∧ SqL K H1 b ys ∧ R (Itez K a b) H1
theorem pi_ez {X : Cx} {e e2 : Expr} {ta : TA} {p p2 pos pos2 tpos : Pos} {elts : List Expr} {kk : Nat} (hg : Gl X "enumerate") (hm : X.mg "enumerate" = none) (hg2 : Gl X "zip") (hm2 : X.mg "zip" = none) (ha : PA X [e, e2] ta)
    (he : starEach [.Call (.Name "zip" p2) [e, e2] [] pos2] X.env = (false, eval (.Call (.Name "zip" p2) [e, e2] [] pos2) X.env) :: starEach [] X.env := by rfl)
    (hs : starEach [e, e2] X.env = (false, eval e X.env) :: starEach [e2] X.env := by rfl) (hpl : (backTo pos2 (starEach [e2] X.env)).any (·.1) = false := by rfl) :
    PI X (.Tuple elts kk tpos) (.Call (.Name "enumerate" p) [.Call (.Name "zip" p2) [e, e2] [] pos2] [] pos) (iEZ X.K ta) := by
  refine ⟨fun pins s σ H R I h => ?_⟩
  refine Call_ (ld_blt I hg hm boot_enumerate (PyProof.Rows.callWith_type1 ?_ he rfl))
  rw [he]
  show wpAny _ _ (spliced ((false, eval (.Call (.Name "zip" p2) [e, e2] [] pos2) X.env) :: backTo pos (starEach [] X.env))) _ _ s
  refine Calls.spliced_cons ?_
  refine Call_ (ld_blt I hg2 hm2 PyProof.Rows.boot_zip (PyProof.Rows.callWith_type1 (thn (ha.run pos2 pins s σ H _ I h) fun us s1 ⟨vs, H1, I1, r1, q1⟩ => ?_) hs hpl))
  obtain ⟨a, b, xs, ys, ex, hqx, hqy, q⟩ := q1
  subst ex
  cases r1 with
  | cons r rr =>
    cases rr with
    | cons r' rr =>
      cases rr
      cases r
      cases r'
      obtain ⟨its, rv, p1, _⟩ := I1.list hqx
      obtain ⟨its2, rv2, p2', _⟩ := I1.list hqy
      refine call_zip_2 p1.isList p2'.isList fun h' hz hTI hTO h1 h2 hsz hk => ?_
      refine Calls.spliced_nil ?_
      refine call_enum_zip (s := { s1 with heap := h' }) hz fun h'' hen hk2 => wpAny_pyIter_enum hen ?_
      have I2 : Inv X pins σ H1 { s1 with heap := h'' } := I1.kept (t' := s1.toks) fun b o q => hk2 b o (hk b o q)
      have ee : h'.objs.size = s1.heap.objs.size + 5 := hsz
      have hne : ∀ j, j < 5 → h'.objs.size ≠ s1.heap.objs.size + j := fun j hj z => by
        have z' : (h'.objs.size : Nat) = s1.heap.objs.size + j := z
        omega
      refine ⟨h'.objs.size, [h'.objs.size, s1.heap.objs.size + 4, s1.heap.objs.size + 2, s1.heap.objs.size + 3, s1.heap.objs.size, s1.heap.objs.size + 1], _, _, H1, rfl, I2, turn_ez (PySem.W.ktu_apart s1.heap.objs.size a b p1.lt p2'.lt) (hne 4 (by omega)) (hne 2 (by omega)) (hne 3 (by omega)) (hne 0 (by omega)) (hne 1 (by omega)),
        ⟨⟨_, hen⟩, Or.inl (hk2 _ _ hz), hk2 _ _ hTI, ⟨_, _, hk2 _ _ hTO⟩, h1.at fun o q => hk2 _ o q, h2.at fun o q => hk2 _ o q⟩, fun c hcm => ?_, q⟩
      have hle : s1.heap.objs.size ≤ c := by
        have e' : c = h'.objs.size ∨ c = s1.heap.objs.size + 4 ∨ c = s1.heap.objs.size + 2 ∨ c = s1.heap.objs.size + 3 ∨ c = s1.heap.objs.size ∨ c = s1.heap.objs.size + 1 := by simpa using hcm
        rcases e' with z | z | z | z | z | z
        · rw [z, ee]; exact Nat.le_add_right _ _
        · rw [z]; exact Nat.le_add_right _ _
        · rw [z]; exact Nat.le_add_right _ _
        · rw [z]; exact Nat.le_add_right _ _
        · rw [z]; exact Nat.le_refl _
        · rw [z]; exact Nat.le_add_right _ _
      exact I1.fpOk hle (I1.hok.fresh hle)
end L2
namespace DL
open PySem PySem.Spec PyProof.Rows L2
open Evl (Ex Ex.refl Ex.trans Ex.new)
theorem kEZ {X : Cx} {K : PySem.W.Frag} {e e2 : Expr} {ta : TA} {p p2 pos pos2 tpos : Pos} {elts : List Expr} {kk : Nat} (hg : Gl X "enumerate") (hm : X.mg "enumerate" = none) (hg2 : Gl X "zip") (hm2 : X.mg "zip" = none) (ha : PA X [e, e2] ta)
    (he : starEach [.Call (.Name "zip" p2) [e, e2] [] pos2] X.env = (false, eval (.Call (.Name "zip" p2) [e, e2] [] pos2) X.env) :: starEach [] X.env := by rfl)
    (hs : starEach [e, e2] X.env = (false, eval e X.env) :: starEach [e2] X.env := by rfl) (hpl : (backTo pos2 (starEach [e2] X.env)).any (·.1) = false := by rfl) (hk : X.K = K := by rfl) :
    PI X (.Tuple elts kk tpos) (.Call (.Name "enumerate" p) [.Call (.Name "zip" p2) [e, e2] [] pos2] [] pos) (iEZ K ta) := by subst hk; exact pi_ez hg hm hg2 hm2 ha he hs hpl
theorem ew_ez {c : Cn} {env : Sy} {os : List SO} {ta tb : TE} {as bs : List PyData} (ha : EvX false c env os ta (.list as)) (hb : EvX false c env os tb (.list bs)) : EvW c env os (iEZ c.K (tCons ta (tCons tb tNil))) (min as.length bs.length) (fun i => .i (.tuple [.int (i : Int), .tuple [as.getD i .none, bs.getD i .none]])) (fun _ => True) := fun ad σ H ok R q =>
  ha ad σ H ok _ fun va H1 e1 r1 => hb ad σ H1 (ok.ext e1) _ fun vb H2 e2 r2 => by
    rw [Nw_false] at r1 r2
    have r1 := r1.ext e2
    obtain ⟨a, rfl⟩ := dn_list_ref r1
    obtain ⟨b, rfl⟩ := dn_list_ref r2
    obtain ⟨xs, hx, _⟩ := sql_of_dn r1
    obtain ⟨ys, hy, _⟩ := sql_of_dn r2
    have ok2 := (ok.ext e1).ext e2
    have p1 := ok2.pin (v := .ref a) (s := .i (.list as)) r1
    have p2 := p1.pin (v := .ref b) (s := .i (.list bs)) r2
    refine ⟨a, b, xs, ys, rfl, hx, hy, q _ H2 ((.ref b, .i (.list bs)) :: (.ref a, .i (.list as)) :: c.fr) (e1.trans e2) p2 (fun ad' env' os' σ' H' o => up_pin ok2 ad' env' os' σ' H' (up_pin p1 ad' env' os' σ' H' o)) ⟨fun i ad' env' os' σ' H' hi o _ => ?_, fun ad' env' os' σ' H' o _ => ?_, fun i ad' env' os' σ' H' x H'' hi o _ y => ?_⟩⟩
    all_goals
      have qa : Dn c.K (Nof c ad' os') H' (.ref a) (.list as) := o.frm _ (List.mem_cons_of_mem _ (List.mem_cons_self ..))
      have qb : Dn c.K (Nof c ad' os') H' (.ref b) (.list bs) := o.frm _ (List.mem_cons_self ..)
      obtain ⟨xs', hx', ax⟩ := sql_of_dn qa
      obtain ⟨ys', hy', ay⟩ := sql_of_dn qb
      have la := ax.length
      have lb := ay.length
    · have h1 : i < xs'.length := by omega
      have h2 : i < ys'.length := by omega
      exact ⟨xs', ys', xs'[i], ys'[i], hx', hy', List.getElem?_eq_getElem h1, List.getElem?_eq_getElem h2⟩
    · exact ⟨xs', ys', hx', hy', by omega⟩
    · obtain ⟨T, T2, x1, y1, rfl, hT2, hT, rfl, fx, fy⟩ := y
      obtain ⟨d1, g1, k1⟩ := ax.getV (fx xs' hx')
      obtain ⟨d2, g2, k2⟩ := ay.getV (fy ys' hy')
      have e1 : Ex H' (upd H' T2 (.tup [x1, y1])) := Ex.new hT2
      have e2 : Ex (upd H' T2 (.tup [x1, y1])) (upd (upd H' T2 (.tup [x1, y1])) T (.tup [.int (i : Nat), .ref T2])) := Ex.new hT
      refine ⟨e1.trans e2, ?_⟩
      show Dn _ _ _ _ _
      rw [List.getD_eq_getElem?_getD, List.getD_eq_getElem?_getD, g1, g2]
      have t2 : Dn c.K (Nof c ad' os') (upd H' T2 (.tup [x1, y1])) (.ref T2) (.tuple [d1, d2]) := .tup (SqT.of upd_same) (.cons (k1.ext e1) (.cons (k2.ext e1) .nil))
      exact .tup (SqT.of upd_same) (.cons (.int _) (.cons (t2.ext e2) .nil))
end DL
namespace L2
open PySem PySem.Spec PyProof.Rows
section
variable {X : Cx}
theorem ps_setDc {i : Nat} {y : Str} {py : Pos} {kx vx tg iter : Expr} {ifs : List Expr} {scope : Scope} {own : List (Str × Nat)} {pos spos : Pos} {wi : TI} {g : TG} {tt : TT} {tk tv : TE} (hc : X.calm = true) (hN : X.N.Nodup) (hy : X.N[i]? = some y) (hyl : X.env.scope.names.lookup y = some .local)
    (hsw : swapsWith (.DictComp kx vx [⟨tg, iter, ifs, 0⟩] scope pos) (some (.Name y py)) spos.line X.env = pure true) (hi : PI X tg iter wi) (ok : BlkOk X.N X.env.scope scope own)
    (hg : ∀ (s : Shared) (H : Hp) (C : Addr) (cl : List (Str × Addr)) (fp : List Addr), PG (X.blk s H scope (compEnvC scope cl C X.env) fp) tg g) (ht : ∀ (s : Shared) (H : Hp) (C : Addr) (cl : List (Str × Addr)) (fp : List Addr), PTs (X.blk s H scope (compEnvC scope cl C X.env) fp) ifs tt)
    (hk : ∀ (s : Shared) (H : Hp) (C : Addr) (cl : List (Str × Addr)) (fp : List Addr), PE (X.blk s H scope (compEnvC scope cl C X.env) fp) kx tk)
    (he : ∀ (s : Shared) (H : Hp) (C : Addr) (cl : List (Str × Addr)) (fp : List Addr), PE (X.blk s H scope (compEnvC scope cl C X.env) fp) vx tv) (hs : ∀ x, foldedSetIterable iter X.env x = pure x := by intro _; rfl) :
    PS X (.Assign [.Name y py] (.DictComp kx vx [⟨tg, iter, ifs, 0⟩] scope pos) spos) (tAsg (tDc wi g tt tk tv (own.map (·.2))) (gName i)) := by
  refine ⟨fun pins s σ H D I h => ?_⟩
  rw [exec_Assign_Name_used _ _ _ _ hsw]
  refine wpAny_bind (wpAny_standAt (wpAny_bind ?_))
  show wpAny _ X.A (do let _ ← comprehension (.DictComp kx vx [⟨tg, iter, ifs, 0⟩] scope pos) scope X.env (firstIterPos [⟨tg, iter, ifs, 0⟩] pos) newDict false (eval iter X.env) (some (assign (.Name y py) X.env))) _ _ s
  have h : tDc wi g tt tk tv (own.map (·.2)) σ H (fun x H1 => gName i x σ H1 D.nx) := h
  refine wpAny_bind (thn (dc_core (Qf := fun _ s' => SP X pins D .next s') hc hN I hi ok hg ht hk he hs h fun L C s' m H' I' q hn f => ?_) fun _ s' hq => wpAny_pure (wpAny_pure hq))
  show wpAny _ _ (assign (.Name y py) X.env (.ref L)) _ _ _
  refine wpAny_assign_Name (store_ok2 (v := V.ref L) I' hN hy (.inl hyl) rfl (fun s2 I2 ⟨a, sb, ha⟩ => ?_) (.inr hyl))
  obtain ⟨f0, f1, f2, f3, f4, f5⟩ := f
  have haC : C ≠ a := by
    rcases ha with z | z
    · rw [z]; exact f1
    · exact fun e => f4 y a z e.symm
  refine ⟨m, hn.sameBut sb haC, fun h3 sb3 => ?_⟩
  exact ⟨_, H', I2.turned (t' := s2.toks) (fun b o hb e => (sb3.2 b hb).trans e) f0 f1 f3 f4 f5, q⟩
theorem sw_trueD {kx vx : Expr} {gs : List Comprehension} {scope : Scope} {pos py : Pos} {y : Str} {l : Nat} {env : Env} (hk : env.scope.kind = .function) (hy : env.scope.names.lookup y = some .local) (hl : (py.line == pos.line) = true)
    (ha : (scope.names.any fun (n, k) => n == y && (k == .local || k == .cell)) = false) : swapsWith (.DictComp kx vx gs scope pos) (some (.Name y py)) l env = pure true := by
  have ky : env.kindOf y = some .local := hy
  have hb : env.blockKind = .function := by unfold Env.blockKind; rw [hk]; rfl
  unfold swapsWith
  simp only [hb, ky, ha, Expr.pos, hl]
  rfl
end
end L2

set_option Elab.async false
set_option linter.all false
set_option maxRecDepth 100000
set_option maxHeartbeats 2000000
/-! The data layer: instances of the program's classes. -/
namespace DL
open PySem PySem.Spec PyProof.Rows L2
open Evl (Ex Ex.refl Ex.trans Ex.new)
/-! ### reading -/
theorem paired_lookup {F : V → PyData → Prop} {f : Str} : ∀ {fs : List (Str × V)} {m : List (Str × PyData)}, Paired (fun (p : Str × V) (q : Str × PyData) => p.1 = q.1 ∧ F p.2 q.2) fs m → (fs.lookup f = none ∧ m.lookup f = none) ∨ ∃ v d, fs.lookup f = some v ∧ m.lookup f = some d ∧ F v d
  | _, _, .nil => Or.inl ⟨rfl, rfl⟩
  | (x, v) :: fs, (y, d) :: m, .cons r t => by
    obtain ⟨e, r⟩ := r
    have e : x = y := e
    subst e
    by_cases h : (f == x) = true
    · exact Or.inr ⟨v, d, by simp [List.lookup, h], by simp [List.lookup, h], r⟩
    · rw [Bool.not_eq_true] at h
      rcases paired_lookup (f := f) t with ⟨a, b⟩ | ⟨v', d', a, b, c⟩
      · exact Or.inl ⟨by simp [List.lookup, h, a], by simp [List.lookup, h, b]⟩
      · exact Or.inr ⟨v', d', by simp [List.lookup, h, a], by simp [List.lookup, h, b], c⟩
section
variable {w : Bool} {c : Cn} {env env' : Sy} {os os' : List SO} {te ta : TE} {t tk : TA} {d : PyData} {C : Addr} {m : List (Str × PyData)} {u : TS} {D : Ends}
theorem eb_var {i : Nat} (h : env[i]? = some (some (.ob C m))) : EvB c env os (tVar i) C m := fun ad σ H ok Q q => by
  obtain ⟨v, h1, h2⟩ := ok.val i _ h
  exact ⟨v, h1, q v H (Ex.refl H) h2⟩
theorem ex_fld {f : Str} (h : EvB c env os te C m) (kc : Cls c.K C) (kn : NoAttr c.K C f) (hf : m.lookup f = some d) : EvX w c env os (tFld c.K te f) d := EvX.weak fun ad σ H ok Q q =>
  h ad σ H ok _ fun v H1 e r => by
    obtain ⟨a, dx, fs, rfl, h1, h2, h3⟩ := r
    rcases paired_lookup (f := f) h3 with ⟨_, z⟩ | ⟨v', d', z1, z2, z3⟩
    · rw [hf] at z; cases z
    · rw [hf] at z2
      cases z2
      exact ⟨a, C, dx, fs, v', rfl, h1, kc, kn, z1, q v' H1 e (by rw [Nw_false]; exact z3)⟩
theorem gs_asgB {i : Nat} (h : EvB c env os te C m) (k : Go c (env.set i (some (.ob C m))) os u D) : Go c env os (tSeq (tAsg te (gName i)) u) D := fun ad σ H ok =>
  h ad σ H ok _ fun v H2 e r => k ad _ H2 ((ok.ext e).set r)
/-! ### methods that read -/
def spSD (K : PySem.W.Frag) (C : Addr) (R : List (Str × PyData) → List PyData → PyData → Prop) : Sp := fun vs H Q _ => ∃ (N : Addr → Prop) (v : V) (rest : List V) (m : List (Str × PyData)) (ds : List PyData) (d : PyData), vs = v :: rest ∧ (∀ a, N a → H a ≠ none) ∧ ObOk K N H v C m ∧ DnAll K N H rest ds ∧ R m ds d ∧ ∀ v H', Ex H H' → Dn K N H' v d → Q v H'
def spSF (K : PySem.W.Frag) (C : Addr) (R : List (Str × PyData) → List PyData → List PyData → Prop) : Sp := fun vs H Q _ => ∃ (N : Addr → Prop) (v : V) (rest : List V) (m : List (Str × PyData)) (ds rs : List PyData), vs = v :: rest ∧ (∀ a, N a → H a ≠ none) ∧ ObOk K N H v C m ∧ DnAll K N H rest ds ∧ R m ds rs ∧
  ∀ p H' ws, H p = none → Ex H H' → H' p = some (.lst ws) → DnAll K (fun a => N a ∨ a = p) H' ws rs → Q (.ref p) H'
theorem spSD_len {K : PySem.W.Frag} {R : List (Str × PyData) → List PyData → PyData → Prop} {n : Nat} (hR : ∀ m ds d, R m ds d → ds.length = n) : ∀ vs H Q E, spSD K C R vs H Q E → vs.length = n + 1 := fun vs H Q E ⟨N, v, rest, m, ds, d, e, _, _, h, r, _⟩ => by rw [e, List.length_cons, h.length, hR m ds d r]
theorem spSF_len {K : PySem.W.Frag} {R : List (Str × PyData) → List PyData → List PyData → Prop} {n : Nat} (hR : ∀ m ds d, R m ds d → ds.length = n) : ∀ vs H Q E, spSF K C R vs H Q E → vs.length = n + 1 := fun vs H Q E ⟨N, v, rest, m, ds, d, e, _, _, h, r, _⟩ => by rw [e, List.length_cons, h.length, hR m ds d r]
theorem ob_lookup {K : PySem.W.Frag} {N : Addr → Prop} {H : Hp} {v : V} {x : Str} (hx : m.lookup x = none) (h : ObOk K N H v C m) : ∃ a dx fs, v = .ref a ∧ H a = some (.ins C dx fs) ∧ fs.lookup x = none := by
  obtain ⟨a, dx, fs, rfl, h1, h2, h3⟩ := h
  refine ⟨a, dx, fs, rfl, h1, ?_⟩
  rcases paired_lookup (f := x) h3 with ⟨z, _⟩ | ⟨_, _, _, z, _⟩
  · exact z
  · rw [hx] at z; cases z
theorem ex_meth {R : List (Str × PyData) → List PyData → PyData → Prop} {E : XK} {x : Str} {ds : List PyData} (h : EvB c env os te C m) (hx : m.lookup x = none) (ha : EvA false c env os t ds) (hR : R m ds d) : EvX w c env os (tMeth C x (spSD c.K C R) [] E te t) d := EvX.weak fun ad σ H ok Q q =>
  h ad σ H ok _ fun v H1 e1 r1 => by
    obtain ⟨a, dx, fs, rfl, h1, h2⟩ := ob_lookup hx r1
    refine ⟨a, dx, fs, rfl, h1, h2, ha ad σ H1 (ok.ext e1) _ fun vs H2 e2 r2 => ?_⟩
    rw [List.append_nil]
    rw [Nw_false] at r2
    exact ⟨Nof c ad os, _, _, m, ds, d, rfl, fun b z => ((ok.ext e1).ext e2).nof z, r1.ext e2, r2, hR, fun v' H' e' r' => q v' H' ((e1.trans e2).trans e') (by rw [Nw_false]; exact r')⟩
theorem ef_meth {R : List (Str × PyData) → List PyData → List PyData → Prop} {E : XK} {x : Str} {ds rs : List PyData} (h : EvB c env os te C m) (hx : m.lookup x = none) (ha : EvA false c env os t ds) (hR : R m ds rs) : EvF c env os (tMeth C x (spSF c.K C R) [] E te t) (.lst (rs.map SV.i)) := fun ad σ H ok Q q =>
  h ad σ H ok _ fun v H1 e1 r1 => by
    obtain ⟨a, dx, fs, rfl, h1, h2⟩ := ob_lookup hx r1
    refine ⟨a, dx, fs, rfl, h1, h2, ha ad σ H1 (ok.ext e1) _ fun vs H2 e2 r2 => ?_⟩
    rw [List.append_nil]
    rw [Nw_false] at r2
    exact ⟨Nof c ad os, _, _, m, ds, rs, rfl, fun b z => ((ok.ext e1).ext e2).nof z, r1.ext e2, r2, hR, fun p H' ws hp e' g1 g2 => q p H' (e1.free (e2.free hp)) ((e1.trans e2).trans e') ⟨ws, g1, dn_paired g2⟩⟩
/-! ### the start of a method's body -/
def envS (n : Nat) (ss : List SV) : Sy := ss.map some ++ List.replicate (n - ss.length) none
theorem ok_startS {K : PySem.W.Frag} {H : Hp} {N : Addr → Prop} {vs : List V} {ss : List SV} {Nm : List Str} (hN : ∀ a, N a → H a ≠ none) (h : Paired (SvOk K N (fun _ => 0) 0 H) vs ss) : Ok ⟨K, H, N, fun _ => False, [], 0⟩ (fun _ => 0) (envS Nm.length ss) [] (L2.start Nm vs) H where
  len := by unfold L2.start envS; simp [Paired.length h]
  ex := fun a o e _ => e
  n0 := hN
  val := fun i s e => by
    unfold envS at e
    by_cases hi : i < ss.length
    · rw [List.getElem?_append_left (by simpa using hi), List.getElem?_map] at e
      cases hd : ss[i]? with
      | none => rw [hd] at e; cases e
      | some d =>
        rw [hd] at e
        cases e
        obtain ⟨v, h1, h2⟩ := paired_get h hd
        refine ⟨v, ?_, h2.sub fun a z => z.elim id fun ⟨k, ⟨o, y, _⟩, _⟩ => by simp at y⟩
        unfold L2.start
        rw [List.getElem?_append_left (by rw [List.length_map, Paired.length h]; exact hi), List.getElem?_map, h1]
        rfl
    · rw [List.getElem?_append_right (by simpa using hi)] at e
      rw [List.getElem?_replicate] at e
      split at e <;> cases e
  obj := fun k o e _ => by simp at e
  inj := fun k j ⟨o, e, _⟩ => by simp at e
  nn := fun k ⟨o, e, _⟩ => by simp at e
  frm := fun p hp => by cases hp
  low := Nat.le_refl _
theorem run_spSD {K : PySem.W.Frag} {R : List (Str × PyData) → List PyData → PyData → Prop} {vs : List V} {H : Hp} {Q : VK} {E : XK} {Nm : List Str} {t : TS} (h : spSD K C R vs H Q E)
    (g : ∀ N m ds d, R m ds d → Ret ⟨K, H, N, fun _ => False, [], 0⟩ d (De Q) → Go ⟨K, H, N, fun _ => False, [], 0⟩ (envS Nm.length (.ob C m :: ds.map SV.i)) [] t (De Q)) : t (De Q) (L2.start Nm vs) H := by
  obtain ⟨N, v, rest, m, ds, d, rfl, hN, hv, hr, hR, hq⟩ := h
  exact g N m ds d hR (fun v H2 e r => hq v H2 (fun a o z => e a o z fun y => y) r) _ _ _ (ok_startS hN (.cons hv (dn_paired hr)))
theorem run_spSF {K : PySem.W.Frag} {R : List (Str × PyData) → List PyData → List PyData → Prop} {vs : List V} {H : Hp} {Q : VK} {E : XK} {Nm : List Str} {t : TS} (h : spSF K C R vs H Q E)
    (g : ∀ N m ds rs, R m ds rs → RetF ⟨K, H, N, fun _ => False, [], 0⟩ rs (De Q) → Go ⟨K, H, N, fun _ => False, [], 0⟩ (envS Nm.length (.ob C m :: ds.map SV.i)) [] t (De Q)) : t (De Q) (L2.start Nm vs) H := by
  obtain ⟨N, v, rest, m, ds, d, rfl, hN, hv, hr, hR, hq⟩ := h
  exact g N m ds d hR (fun p H2 ws hp e h1 h2 => hq p H2 ws hp (fun a o z => e a o z fun y => y) h1 h2) _ _ _ (ok_startS hN (.cons hv (dn_paired hr)))
end
end DL
namespace DL
open PySem PySem.Spec PyProof.Rows L2
open Evl (Ex Ex.refl Ex.trans Ex.new)
/-! ### methods and constructors as promises -/
def MetP (P : Program) (w : World) (K : PySem.W.Frag) (mg : Str → Option Value) (base : Heap) (k : Nat) (C : Addr) (m : Str) (ps : List Str) (sp : Sp) : Prop :=
  ∃ f fd, Cls K C ∧ Meth K C m f ∧ FnOk P w K mg base CX0 k f fd ps sp ∧ Binds K fd ps []
def MakP (P : Program) (w : World) (K : PySem.W.Frag) (mg : Str → Option Value) (base : Heap) (k : Nat) (x : Str) (C : Addr) (ps : List Str) (sp : Sp) (fs : List CForm) : Prop :=
  ∃ f fd, Mk K C f ∧ FnOk P w K mg base CX0 k f fd ps sp ∧ (∀ F ∈ fs, FormOk K fd ps F) ∧ mg x = some (.ref C)
abbrev FnM (K : PySem.W.Frag) (x qual : Str) (st : Stmt) (kws : List (Str × V)) (f : Addr) (fd : FuncData) : Prop := FunD K x qual (defArgs st) (defBody st) (defScope st) [] kws f fd
section
variable {P : Program} {w : World} {K : PySem.W.Frag} {mg : Str → Option Value} {base : Heap}
theorem met_mk {x qual : Str} {st : Stmt} {f : Addr} {fd : FuncData} {N ps : List Str} {k : Nat} {sp : Sp} {C : Addr} (F : FnM K x qual st [] f fd) (S : FnScope N ps (defScope st)) (c : Cls K C) (me : Meth K C x f) (len : ∀ vs H Q E, sp vs H Q E → vs.length = ps.length)
    (hb : ∀ (kV doc pm : Value) (an : Option Addr) (cdv ct : Value) (us : List Value), us.length = ps.length → bindArgs (PySem.W.fnOf x qual (defArgs st) (defBody st) (defScope st) .none kV doc pm an cdv ct) ⟨us, []⟩ = pure (ps.zip us))
    (hbody : ∀ (cdv : Value) (A : Around) (outer : List Env) (s : Shared) (H : Hp) (vs : List V) (Q : VK) (E : XK), Room k (A.deeper (envOfC qual (defScope st) s.heap.objs.size f cdv)) → sp vs H Q E →
      ∃ t, PSs (cxOf CX0 P w K mg base N qual (defScope st) f cdv A outer s H E).nox (defBody st) t ∧ t (De Q) (L2.start N vs) H) : MetP P w K mg base (k + 1) C x ps sp :=
  ⟨f, fd, c, me, F.ok S len fun cdv A outer s H vs Q E hr h => let ⟨t, a, b⟩ := hbody cdv A outer s H vs Q E hr h; ⟨t, a.nox, b⟩, F.bindsN hb⟩
theorem mak_mk {x y qual : Str} {st : Stmt} {f : Addr} {fd : FuncData} {N ps : List Str} {k : Nat} {sp : Sp} {C : Addr} {kws : List (Str × V)} {fs : List CForm} (F : FnM K y qual st kws f fd) (S : FnScope N ps (defScope st)) (M : Mk K C f) (g : mg x = some (.ref C)) (len : ∀ vs H Q E, sp vs H Q E → vs.length = ps.length)
    (hf : ∀ F ∈ fs, FormOk K fd ps F)
    (hbody : ∀ (cdv : Value) (A : Around) (outer : List Env) (s : Shared) (H : Hp) (vs : List V) (Q : VK) (E : XK), Room k (A.deeper (envOfC qual (defScope st) s.heap.objs.size f cdv)) → sp vs H Q E →
      ∃ t, PSs (cxOf CX0 P w K mg base N qual (defScope st) f cdv A outer s H E).nox (defBody st) t ∧ t (De Q) (L2.start N vs) H) : MakP P w K mg base (k + 1) x C ps sp fs :=
  ⟨f, fd, M, F.ok S len fun cdv A outer s H vs Q E hr h => let ⟨t, a, b⟩ := hbody cdv A outer s H vs Q E hr h; ⟨t, a.nox, b⟩, hf, g⟩
end
section
variable {X : Cx} {k j : Nat} {ps : List Str} {sp : Sp} {x m : Str} {p pos apos : Pos} {e o : Expr} {es : List Expr} {t tk : TA} {ta : TE} {C : Addr} {kws : List Keyword} {fs : List CForm} {n : Nat} {ks : List Str} {ms : List (Str × V)}
theorem pe_metP {pl : Sem Bool} (h : MetP X.prog X.w X.K X.mg X.base k C m ps sp) (hr : Room j X.A) (hj : k ≤ j) (hx : Passes CX0 X E0) (he : PE X o ta) (ha : PA X (e :: es) t)
    (hst : starEach (e :: es) X.env = (false, eval e X.env) :: starEach es X.env := by rfl) (hpl : (backTo pos (starEach es X.env)).any (·.1) = false := by rfl)
    (ht : eval (.Call (.Attribute o m apos) (e :: es) [] pos) X.env = (do
      let ov ← eval o X.env
      standAt apos.atName
      let (f, first) ← holding [ov] (getMethod ov m pl)
      callWith pos f first (backTo pos (starEach (e :: es) X.env)) (backToKw pos (keywordEach [] X.env))) := by rfl) :
    PE X (.Call (.Attribute o m apos) (e :: es) [] pos) (tMeth C m sp [] E0 ta t) := by
  obtain ⟨f, fd, c, me, G, b⟩ := h
  exact pe_meth (pl := pl) he c me G (hr.mono hj) b .nil hx ha hst hpl ht
theorem pe_metP0 {pl : Sem Bool} (h : MetP X.prog X.w X.K X.mg X.base k C m ps sp) (hr : Room j X.A) (hj : k ≤ j) (hx : Passes CX0 X E0) (he : PE X o ta)
    (ht : eval (.Call (.Attribute o m apos) [] [] pos) X.env = (do
      let ov ← eval o X.env
      standAt apos.atName
      let (f, first) ← holding [ov] (getMethod ov m pl)
      callWith pos f first (backTo pos (starEach [] X.env)) (backToKw pos (keywordEach [] X.env))) := by rfl) :
    PE X (.Call (.Attribute o m apos) [] [] pos) (tMeth C m sp [] E0 ta tNil) := by
  obtain ⟨f, fd, c, me, G, b⟩ := h
  exact pe_meth0 (pl := pl) he c me G (hr.mono hj) b .nil hx ht
theorem pe_makP (h : MakP X.prog X.w X.K X.mg X.base k x C ps sp fs) (hF : (n + 1, ks, ms) ∈ fs) (hr : Room j X.A) (hj : k + 1 ≤ j) (hg : Gl X x) (hx : Passes CX0 X E0) (ha : PA X (e :: es) t) (hkw : PK X kws tk)
    (hall : (backToKw pos (keywordEach kws X.env)).all (·.1.isSome) = true := by rfl) (hks : (backToKw pos (keywordEach kws X.env)).filterMap (·.1) = ks := by rfl) (hdb : (x == ("__debug__" : Str)) = false := by decide)
    (he : starEach (e :: es) X.env = (false, eval e X.env) :: starEach es X.env := by rfl) (hpl : ((backTo pos (starEach (e :: es) X.env)).any (·.1) || (backToKw pos (keywordEach kws X.env)).any (·.1.isNone)) = false := by rfl) :
    PE X (.Call (.Name x p) (e :: es) kws pos) (tMakeK C n ks.length sp (fun vs zs => vs ++ (zs ++ ms.map (·.2))) E0 t tk) := by
  obtain ⟨f, fd, M, G, b, g⟩ := h
  obtain ⟨ds, hb⟩ := b _ hF
  exact pe_makeK M G (hr.mono hj) hg g hb hx ha hkw hall hks hdb he hpl
end
/-! ### making -/
def spO (K : PySem.W.Frag) (C : Addr) (R : List PyData → List (Str × PyData) → Prop) : Sp := fun vs H Q _ => ∃ (N : Addr → Prop) (x dx : Addr) (rest : List V) (ds : List PyData) (m : List (Str × PyData)), vs = .ref x :: rest ∧ H x = some (.ins C dx []) ∧ (∀ a, N a → H a ≠ none) ∧ ¬ N x ∧ DnAll K (fun a => N a ∨ a = x) H rest ds ∧ R ds m ∧
  ∀ H', (∀ a o, H a = some o → a ≠ x → H' a = some o) → ObOk K N H' (.ref x) C m → Q .non H'
theorem spO_len {K : PySem.W.Frag} {C : Addr} {R : List PyData → List (Str × PyData) → Prop} {n : Nat} (hR : ∀ ds m, R ds m → ds.length = n) : ∀ vs H Q E, spO K C R vs H Q E → vs.length = n + 1 := fun vs H Q E ⟨N, x, dx, rest, ds, m, e, _, _, _, h, r, _⟩ => by rw [e, List.length_cons, h.length, hR ds m r]
section
variable {w : Bool} {c : Cn} {env env' : Sy} {os os' : List SO} {te ta tv to : TE} {t tk : TA} {d : PyData} {C : Addr} {m : List (Str × PyData)} {u : TS} {D : Ends}
theorem eb_make {R : List PyData → List (Str × PyData) → Prop} {E : XK} {n k : Nat} {ds es : List PyData} (h : EvA false c env os t ds) (hk : EvA false c env os tk es) (l1 : ds.length = n) (l2 : es.length = k) (hR : R (ds ++ (es ++ [])) m) : EvB c env os (tMakeK C n k (spO c.K C R) (fun vs zs => vs ++ (zs ++ ([] : List V))) E t tk) C m := fun ad σ H ok Q q =>
  h ad σ H ok _ fun vs H1 e1 a1 => hk ad σ H1 (ok.ext e1) _ fun zs H2 e2 a2 => by
    rw [Nw_false] at a1 a2
    have ok2 := (ok.ext e1).ext e2
    refine ⟨a1.length.trans l1, a2.length.trans l2, fun x dx hx hdx hne => ?_⟩
    have e3 : Ex H2 (upd H2 dx (.own x)) := Ex.new hdx
    have hx3 : upd H2 dx (.own x) x = none := by rw [upd_ne (Ne.symm hne)]; exact hx
    have e4 : Ex (upd H2 dx (.own x)) (upd (upd H2 dx (.own x)) x (.ins C dx [])) := Ex.new hx3
    have hnx : ¬ Nof c ad os x := fun z => ok2.nof z hx
    refine ⟨Nof c ad os, x, dx, vs ++ (zs ++ []), _, m, rfl, upd_same, fun b z => (e3.trans e4).some (ok2.nof z), hnx, ?_, hR, fun H' e' r => ⟨rfl, ?_⟩⟩
    · exact ((DnAll.add hx3 (((a1.ext e2).append (a2.append .nil)).ext e3)).ext e4)
    · have ex2 : Ex H2 H' := fun a o z => e' a o ((e3.trans e4) a o z) (ne_of_none z hx)
      exact q _ H' ((e1.trans e2).trans ex2) r
/-! ### the body of __init__ -/
def putS (f : Str) (v : SV) : List (Str × SV) → List (Str × SV)
  | [] => [(f, v)]
  | (g, x) :: r => if g = f then (g, v) :: r else (g, x) :: putS f v r
theorem paired_put {F : V → SV → Prop} {f : Str} {v : V} {s : SV} (hv : F v s) : ∀ {fs : List (Str × V)} {m : List (Str × SV)}, Paired (fun (p : Str × V) (q : Str × SV) => p.1 = q.1 ∧ F p.2 q.2) fs m → Paired (fun (p : Str × V) (q : Str × SV) => p.1 = q.1 ∧ F p.2 q.2) (putF f v fs) (putS f s m)
  | _, _, .nil => .cons ⟨rfl, hv⟩ .nil
  | (x, a) :: fs, (y, b) :: m, .cons r t => by
    obtain ⟨e, r⟩ := r
    have e : x = y := e
    subst e
    unfold putF putS
    by_cases h : x = f
    · rw [if_pos h, if_pos h]; exact .cons ⟨rfl, hv⟩ t
    · rw [if_neg h, if_neg h]; exact .cons ⟨rfl, r⟩ (paired_put hv t)
theorem gs_setFld {k : Nat} {f : Str} {fs : List (Str × SV)} {s : SV} (h : EvS c env os tv s) (hl : EvR c env os to k) (hk : os[k]? = some (.ob C fs)) (kc : Cls c.K C) (kn : NoAttr c.K C f) (hz : fs.length < 1000) (g : Go c env (os.set k (.ob C (putS f s fs))) u D) : Go c env os (tSeq (sFld c.K to tv f) u) D := fun ad σ H ok =>
  h.run ok fun v H1 e1 r => hl.2 ad σ H1 (ok.ext e1) _ fun H2 e2 => by
    have ok2 := (ok.ext e1).ext e2
    obtain ⟨_, dx, vs, hvs, pv⟩ := ok2.obj k _ hk rfl
    have hN : Nof c ad os (ad k) := Or.inr ⟨k, ⟨_, hk, rfl⟩, rfl⟩
    refine ⟨ad k, C, dx, vs, rfl, hvs, kc, kn, by rw [Paired.length pv]; exact hz, g ad σ _ (ok2.mut hk rfl rfl ⟨dx, _, upd_same, ?_⟩)⟩
    exact paired_put ((r.ext e2).mut hvs rfl hN) (Paired.imp pv fun _ _ z => ⟨z.1, z.2.mut hvs rfl hN⟩)
def RetO (x : Addr) (C : Addr) (m : List (Str × PyData)) (c : Cn) (D : Ends) : Prop := ∀ ad env os σ H2, Ok c ad env os σ H2 → os[0]? = some (.ob C (m.map fun p => (p.1, SV.i p.2))) → D.nx σ H2
theorem g_endO {x : Addr} (hq : RetO x C m c D) (h0 : os[0]? = some (.ob C (m.map fun p => (p.1, SV.i p.2)))) : Go c env os tNext D := fun ad σ H ok => hq ad env os σ H ok h0
theorem paired_obd {K : PySem.W.Frag} {N : Addr → Prop} {ad : Nat → Addr} {n : Nat} {H : Hp} : ∀ {fs : List (Str × V)} {m : List (Str × PyData)}, Paired (fun (p : Str × V) (q : Str × SV) => p.1 = q.1 ∧ SvOk K N ad n H p.2 q.2) fs (m.map fun p => (p.1, SV.i p.2)) → Paired (fun (p : Str × V) (q : Str × PyData) => p.1 = q.1 ∧ Dn K N H p.2 q.2) fs m
  | _, [], h => by cases h; exact .nil
  | _, q :: m, h => by
    cases h with
    | cons a b => exact .cons a (paired_obd b)
theorem run_spO {K : PySem.W.Frag} {R : List PyData → List (Str × PyData) → Prop} {vs : List V} {H : Hp} {Q : VK} {E : XK} {Nm : List Str} {t : TS} (h : spO K C R vs H Q E)
    (g : ∀ N x ds m, R ds m → RetO x C m ⟨K, H, N, fun a => a = x, [(.ref x, .r 0)], 1⟩ (De Q) → Go ⟨K, H, N, fun a => a = x, [(.ref x, .r 0)], 1⟩ (envS Nm.length (.r 0 :: ds.map SV.i)) [.ob C []] t (De Q)) : t (De Q) (L2.start Nm vs) H := by
  obtain ⟨N, x, dx, rest, ds, m, rfl, hx, hN, hnx, hr, hR, hq⟩ := h
  have lv : ∀ k, Lv [SO.ob C []] k → k = 0 := fun k ⟨o, e, _⟩ => by
    match k, e with
    | 0, _ => rfl
  have hNo : ∀ a, Nof ⟨K, H, N, fun a => a = x, [(.ref x, .r 0)], 1⟩ (fun _ => x) [SO.ob C []] a → N a ∨ a = x := fun a h => by
    rcases h with h | ⟨k, _, e⟩
    · exact Or.inl h
    · exact Or.inr e
  refine g N x ds m hR (fun ad env os σ H2 ok h0 => ?_) (fun _ => x) _ _ ?_
  · have h1 := ok.frm _ (List.mem_cons_self ..)
    obtain ⟨e1, _⟩ := (show V.ref x = .ref (ad 0) ∧ _ from h1)
    obtain ⟨_, dx', ws, hws, pw⟩ := ok.obj 0 _ h0 rfl
    have ex : x = ad 0 := by cases e1; rfl
    rw [← ex] at hws
    refine hq H2 (fun a o z ne => ok.ex a o z ne) ⟨x, dx', ws, rfl, hws, hnx, Paired.imp (paired_obd pw) fun _ _ z => ⟨z.1, z.2.sub fun a y => Or.inl y⟩⟩
  · have hp : Paired (SvOk K (fun a => N a ∨ a = x) (fun _ => x) 1 H) (V.ref x :: rest) (SV.r 0 :: ds.map SV.i) := .cons ⟨rfl, Nat.lt_succ_self 0⟩ (dn_paired hr)
    refine ⟨?_, fun a o e _ => e, hN, fun i s e => ?_, fun k o e _ => ?_, fun k j a b _ => (lv k a).trans (lv j b).symm, fun k _ => hnx, fun p hp => ?_, Nat.le_refl _⟩
    · unfold L2.start envS; simp [hr.length]
    · unfold envS at e
      have hl := Paired.length hp
      by_cases hi : i < (SV.r 0 :: ds.map SV.i).length
      · rw [List.getElem?_append_left (by simpa using hi), List.getElem?_map] at e
        cases hd : (SV.r 0 :: ds.map SV.i)[i]? with
        | none => rw [hd] at e; cases e
        | some d =>
          rw [hd] at e
          cases e
          obtain ⟨v, h1, h2⟩ := paired_get hp hd
          refine ⟨v, ?_, h2.sub hNo⟩
          unfold L2.start
          rw [List.getElem?_append_left (by rw [List.length_map, hl]; exact hi), List.getElem?_map, h1]
          rfl
      · rw [List.getElem?_append_right (by simpa using hi), List.getElem?_replicate] at e
        split at e <;> cases e
    · match k, e with
      | 0, e =>
        cases e
        exact ⟨Or.inr rfl, dx, [], hx, .nil⟩
    · rw [List.mem_singleton.mp hp]
      exact ⟨rfl, Nat.lt_succ_self 0⟩
end
end DL
namespace DL
open PySem PySem.Spec PyProof.Rows L2
theorem kFld {X : Cx} {K : PySem.W.Frag} {o : Expr} {f : Str} {pos : Pos} {ta : TE} (ha : PE X o ta) (hb : attributeBase o f X.env (eval o X.env) = eval o X.env := by rfl) (hk : X.K = K := by rfl) : PE X (.Attribute o f pos) (tFld K ta f) := by subst hk; exact pe_fld ha hb
theorem kSetFld {X : Cx} {K : PySem.W.Frag} {o value : Expr} {f : Str} {pos pos' : Pos} {ta tv : TE} (ha : PE X o ta) (hv : PE X value tv) (hs : swapsWith value (some (.Attribute o f pos')) pos.line X.env = pure false := by rfl) (hk : X.K = K := by rfl) : PS X (.Assign [.Attribute o f pos'] value pos) (sFld K ta tv f) := by subst hk; exact ps_fld ha hv hs
end DL

set_option Elab.async false
set_option linter.all false
set_option maxRecDepth 100000
set_option maxHeartbeats 2000000
/-! The data layer: list(o) of an instance whose __iter__ gives iter(list); properties. -/
namespace DL
open PySem PySem.Spec PyProof.Rows L2
open Evl (Ex Ex.refl Ex.trans Ex.new)
section
variable {prog : Program} {w : World} {A : Around} {E : Value → Shared → Prop} {s : Shared} {it l : Addr} {i : Nat} {items : Array Value}
theorem next_item2 {x : Value} {Q : Option Value → Shared → Prop} (ho : s.heap.get? it = some (GNX.itObj l i)) (hl : s.heap.IsList l items) (hx : items[i]? = some x)
    (hQ : ∀ h', h'.get? it = some (GNX.itObj l (i + 1)) → Heap.SameBut it s.heap h' → Q (some x) { s with heap := h' }) : wpAny (model prog w) A (pyNext (.ref it)) Q E s := by
  have hT : s.TypeIs (.ref it) "list_iterator" := ⟨_, ho, rfl⟩
  unfold pyNext
  refine wpAny_bind (wpAny_attempt (wpAny_callSpecial?_slot (name := Str.ofString "__next__") hT slot_listiter_next (wpAny_call_entry slot_listiter_next hT entry_listiter_next ?_ (args_listiter_next _))))
  refine wpAny_mono (GNX.next_item (A := A.in1) (Q := fun v s' => v = x ∧ Q (some x) s') ho hl hx fun h' e sb => ⟨rfl, hQ h' e sb⟩) (fun fin s' hf => ?_) fun _ _ z => z
  obtain ⟨v, rfl, rfl, q⟩ := hf
  exact ⟨_, rfl, wpAny_pure q⟩
theorem next_end2 {Q : Option Value → Shared → Prop} (hh : A.handled = none) (ho : s.heap.get? it = some (GNX.itObj l i)) (hl : s.heap.IsList l items) (hx : items[i]? = none)
    (hQ : ∀ h1 h', h1.get? it = some (GNX.itEnd i) → Heap.SameBut it s.heap h1 → (∀ b o, h1.get? b = some o → h'.get? b = some o) → Q none { s with heap := h' }) : wpAny (model prog w) A (pyNext (.ref it)) Q E s := by
  have hT : s.TypeIs (.ref it) "list_iterator" := ⟨_, ho, rfl⟩
  unfold pyNext
  refine wpAny_bind (wpAny_attempt (wpAny_callSpecial?_slot (name := Str.ofString "__next__") hT slot_listiter_next (wpAny_call_entry slot_listiter_next hT entry_listiter_next ?_ (args_listiter_next _))))
  refine wpAny_mono (GNX.next_end (A := A) (Q := fun v s' => False) hh ho hl hx fun h1 h' e vs e1 sb k ne he hv => ?_) (fun fin s' hf => ?_) fun _ _ z => z
  · refine wpAny_bind (wpAny_isInstance (T := "StopIteration") (b := true) ⟨_, he, rfl⟩ isSubtype_stop ?_)
    exact wpAny_pure (hQ h1 h' e1 sb k)
  · obtain ⟨v, _, z⟩ := hf
    exact z.elim
end
theorem sql_step {K : PySem.W.Frag} {H1 : Hp} {l q it : Addr} {ys acc : List V} {o : HO} (h : SqL K H1 l ys) (hq : H1 q = some (.lst [])) (hit : H1 it = some (ItO l it 0)) (hacc : acc = [] ∨ ys ≠ []) : SqL K (upd (upd H1 q (.lst acc)) it o) l ys := by
  rcases h with h | h
  · have nit : l ≠ it := fun z => by
      subst z
      rcases h with h | ⟨u, h⟩ <;> rw [hit] at h <;> cases h
    refine Or.inl ?_
    by_cases e : l = q
    · subst e
      rcases h with h | ⟨u, h⟩
      · rw [hq] at h
        cases h
        rcases hacc with e | e
        · subst e
          exact Or.inl (by rw [upd_ne nit, upd_same])
        · exact absurd rfl e
      · rw [hq] at h; cases h
    · rcases h with h | ⟨u, h⟩
      · exact Or.inl (by rw [upd_ne nit, upd_ne e]; exact h)
      · exact Or.inr ⟨u, by rw [upd_ne nit, upd_ne e]; exact h⟩
  · exact Or.inr h
section
variable {X : Cx} {pins : List (Addr × Obj)} {σ : L2.St} {H : Hp} {s : Shared} {A1 : Around}
theorem itr_loop {H1 : Hp} {l q it : Addr} {ys : List V} {Rs : Result → Shared → Prop} (hA : A1.in1.handled = none) (hq : H1 q = some (.lst [])) (hit : H1 it = some (ItO l it 0)) (hl : SqL X.K H1 l ys) (hz : ys.length ≤ sizeLine)
    (hdone : ∀ s, Inv X pins σ (upd (upd H1 q (.lst ys)) it (ItE it ys.length)) s → Rs (.ok (.ret .none)) s) :
    ∀ (k i : Nat) (s : Shared), ys.length - i = k → i ≤ ys.length → Inv X pins σ (upd (upd H1 q (.lst (ys.take i))) it (ItO l it i)) s → codeAny (model X.prog X.w) A1 (.builtin "list.extend.loop" ⟨[.ref q, .ref it, .none], []⟩) Rs s := by
  have nqi : q ≠ it := fun z => by rw [z, hit] at hq; cases hq
  intro k
  induction k with
  | zero =>
    intro i s hk hi I
    have hin : i = ys.length := by omega
    subst hin
    refine codeAny_builtin PySem.F.entry_extend_loop ?_
    rw [Around.under_plainId PySem.F.plain_extend_loop _]
    show wpAny _ A1.in1 (pyNext (.ref it) >>= _) _ _ s
    have hl2 : SqL X.K (upd (upd H1 q (.lst (ys.take ys.length))) it (ItO l it ys.length)) l ys := sql_step hl hq hit (by
      cases ys with
      | nil => exact Or.inl rfl
      | cons a b => exact Or.inr (fun z => nomatch z))
    obtain ⟨its, rv, pl, hzz⟩ := I.list hl2
    refine wpAny_bind (next_end2 hA (itO_get I upd_same) pl.isList (by rw [List.getElem?_toArray]; exact rv.none_of (by simp)) fun h1 h' e1 sb k => ?_)
    have mu : Mut (upd (upd H1 q (.lst (ys.take ys.length))) it (ItO l it ys.length) it) := by rw [upd_same]; exact True.intro
    have I2 := I.write (x := it) (e := it) (t' := s.toks) mu (.inl rfl) (fun b o nb z => (sb.2 b nb).trans z) ⟨_, e1⟩ (itE_ok e1)
    rw [upd_upd, List.take_length] at I2
    exact wpAny_pure (hdone _ (I2.kept (t' := s.toks) k))
  | succ k ih =>
    intro i s hk hi I
    have hlt : i < ys.length := by omega
    refine codeAny_builtin PySem.F.entry_extend_loop ?_
    rw [Around.under_plainId PySem.F.plain_extend_loop _]
    show wpAny _ A1.in1 (pyNext (.ref it) >>= _) _ _ s
    have hl2 : SqL X.K (upd (upd H1 q (.lst (ys.take i))) it (ItO l it i)) l ys := sql_step hl hq hit (Or.inr fun z => by rw [z] at hlt; cases hlt)
    obtain ⟨its, rv, pl, hzz⟩ := I.list hl2
    have hv : ys[i]? = some ys[i] := List.getElem?_eq_getElem hlt
    obtain ⟨u, hu, ru⟩ := rv.get hv
    refine wpAny_bind (next_item2 (itO_get I upd_same) pl.isList (by rw [List.getElem?_toArray]; exact hu) fun h' e1 sb => ?_)
    have mu : Mut (upd (upd H1 q (.lst (ys.take i))) it (ItO l it i) it) := by rw [upd_same]; exact True.intro
    have I2 := I.write (x := it) (e := it) (t' := s.toks) mu (.inl rfl) (fun b o nb z => (sb.2 b nb).trans z) ⟨_, e1⟩ (itO_ok e1)
    rw [upd_upd] at I2
    show wpAny _ A1.in1 (updateSeq q (·.push u) >>= _) _ _ _
    have hq2 : upd (upd H1 q (.lst (ys.take i))) it (ItO l it (i + 1)) q = some (.lst (ys.take i)) := by rw [upd_ne nqi, upd_same]
    obtain ⟨z, its2, n2, r2, hl3, e⟩ := I2.lstM hq2
    have hti : (ys.take i).length = i := by rw [List.length_take]; omega
    refine wpAny_bind (wpAny_updateSeq e rfl (wpAny_pure ⟨plainId_quiet PySem.F.plain_extend_loop _, ?_⟩) (by rw [List.size_toArray]; omega) (by show (its2.toArray.push u).size ≤ sizeLine + 1; rw [Array.size_push, List.size_toArray]; omega))
    have I3 := I2.lset (f := (·.push u)) (its' := its2 ++ [u]) (ys := ys.take i ++ [ys[i]]) (t' := s.toks) hq2 e (by simp) (r2.append (.cons ru .nil)) (by rw [List.length_append, List.length_singleton]; omega)
    have e5 : ys.take i ++ [ys[i]] = ys.take (i + 1) := by rw [List.take_add_one, hv]; rfl
    rw [e5] at I3
    have e6 : upd (upd (upd H1 q (.lst (ys.take i))) it (ItO l it (i + 1))) q (.lst (ys.take (i + 1))) = upd (upd H1 q (.lst (ys.take (i + 1)))) it (ItO l it (i + 1)) := by
      funext b
      by_cases h1 : b = q
      · subst h1; rw [upd_same, upd_ne nqi, upd_same]
      · by_cases h2 : b = it
        · subst h2; rw [upd_ne h1, upd_same, upd_same]
        · rw [upd_ne h1, upd_ne h2, upd_ne h1, upd_ne h2, upd_ne h1]
    rw [e6] at I3
    exact ih (i + 1) _ (by omega) (by omega) I3

variable {C fi : Addr} {fdI : FuncData} {psI : List Str} {sp : Sp} {n : Nat}
theorem itr_hint {M : Model} {A : Around} {E : Value → Shared → Prop} {Q : Bool → Shared → Prop} {K : PySem.W.Frag} {a : Addr} {ox : Obj} {od : Option Obj} (n1 : NoAttr K C "__len__") (n2 : NoAttr K C "__length_hint__") (hK : K.In s.heap) (J : PySem.W.InstAt s.heap a ox C od) (h : Q true s) :
    wpAny M A (Builtin.List.listLengthHint (.ref a)) Q E s := by
  unfold Builtin.List.listLengthHint
  refine wpAny_bind (wpAny_bind (J.type.here ((PySem.W.looks_findIn hK n1).here ?_)))
  refine PySem.W.KFB.if_not rfl ?_
  refine PySem.W.KFB.if_not rfl ?_
  refine wpAny_bind (wpAny_bind (J.type.here ((PySem.W.looks_findIn hK n2).here ?_)))
  exact wpAny_pure h
/-- list(o) of an o whose __iter__ gives an iterator over a list -/
def rItr (K : PySem.W.Frag) (C : Addr) (sp : Sp) : List V → Hp → VK → Prop := fun xs H Q => ∃ a dx fs, xs = [.ref a] ∧ H a = some (.ins C dx fs) ∧ ∀ q, H q = none →
  sp [.ref a] (upd H q (.lst [])) (fun v H1 => ∃ it l ys, v = .ref it ∧ H1 it = some (ItO l it 0) ∧ H1 q = some (.lst []) ∧ (∃ dx fs, H1 a = some (.ins C dx fs)) ∧ SqL K H1 l ys ∧ Q (.ref q) (upd (upd H1 q (.lst ys)) it (ItE it ys.length))) E0
theorem itr_ext {q a dx : Addr} {fs : List (Str × V)} {H2 : Hp} {Q : VK} (hc : X.calm = true) (me : Meth X.K C "__iter__" fi) (n1 : NoAttr X.K C "__len__") (n2 : NoAttr X.K C "__length_hint__") (FI : FnOk X.prog X.w X.K X.mg X.base CX0 n fi fdI psI sp) (bI : Binds X.K fdI psI []) (xI : Passes CX0 X E0)
    (sb : Sub X n X.A.in1.in1) (I2 : Inv X pins σ H2 s) (ha2 : H2 a = some (.ins C dx fs)) (hq2 : H2 q = some (.lst []))
    (hsp : sp [.ref a] H2 (fun v H1 => ∃ it l ys, v = .ref it ∧ H1 it = some (ItO l it 0) ∧ H1 q = some (.lst []) ∧ (∃ dx fs, H1 a = some (.ins C dx fs)) ∧ SqL X.K H1 l ys ∧ Q (.ref q) (upd (upd H1 q (.lst ys)) it (ItE it ys.length))) E0) :
    wpAny (model X.prog X.w) X.A.in1.in1 (Builtin.List.listExtendWith (.ref q) (.ref a) .none)
      (fun fin s' => match fin with | .done f => wants (fun r s₂ => r = .none ∧ EP X pins σ Q (.ref q) s₂) X.xe (.ok f) s' | .again c' => c'.quiet = true ∧ codeAny (model X.prog X.w) X.A.in1 c' (wants (fun r s₂ => r = .none ∧ EP X pins σ Q (.ref q) s₂) X.xe) s')
      (fun e s' => wants (fun r s₂ => r = .none ∧ EP X pins σ Q (.ref q) s₂) X.xe (.error e) s') s := by
  have hne : q ≠ a := ne_of hq2 ha2 (fun z => nomatch z)
  obtain ⟨mA, J, _⟩ := ins_get I2.hok ha2
  obtain ⟨od, J, _⟩ := J.look
  obtain ⟨m0, hF⟩ := I2.fr
  unfold Builtin.List.listExtendWith
  refine wpAny_bind (J.type.here ?_)
  have h1 : Builtin.List.listSameRef (.ref q) (.ref a) = false := by simp [Builtin.List.listSameRef, hne]
  have h2 : (Value.ref C == Value.type "list") = false := rfl
  have h3 : (Value.ref C == Value.type "tuple") = false := rfl
  simp only [h1, h2, h3, Bool.or_false, Bool.false_eq_true, if_false]
  refine wpAny_bind (PySem.W.owit_iter hF I2.ok.mod.kin J me.at_ me.fn ?_)
  have e0 : Env0 X.prog X.w X.K X.mg X.base X.A.in1.in1 X.stack s H2 := by
    have e := I2.env0
    exact ⟨by rw [sb.fr]; exact e.frames, e.mod, e.bs, e.bsz, e.funs, e.frf, e.hok, e.bare⟩
  have hl := FI.len _ _ _ _ hsp
  have r2 : Vals [V.ref a] [Value.ref a] := .cons rfl .nil
  refine wpAny_call (codeAny_mono (FI.run X.A.in1.in1 X.stack s H2 ⟨[.ref a], []⟩ [.ref a] [.ref a] _ E0 sb.room e0 (by
    have := bI s [.ref a] I2.kIn (by simpa using hl)
    simpa using this) r2 hsp) fun r s' hq' => ?_)
  cases r with
  | error e => exact xI pins σ H2 _ e s' I2 hq'
  | ok fl =>
    cases fl with
    | next => exact False.elim hq'
    | brk => exact False.elim hq'
    | cont => exact False.elim hq'
    | ret u =>
      obtain ⟨v, H1, I', rv, it, l, ys, ev, eit, eq, ⟨dx', fs', ea⟩, el, fin⟩ := I2.after hq'
      subst ev
      cases rv
      have hT : s'.TypeIs (.ref it) "list_iterator" := ⟨_, itO_get I' eit, rfl⟩
      unfold PySem.W.OwitIt
      refine wpAny_specialOf (name := Str.ofString "__next__") hT slot_listiter_next.lookup ?_
      obtain ⟨mA', J', _⟩ := ins_get I'.hok ea
      obtain ⟨od', J', _⟩ := J'.look
      refine wpAny_bind (wpAny_holding (itr_hint n1 n2 I'.kIn J' ?_))
      obtain ⟨z, its, k, r3, hl3, e3⟩ := I'.lstM eq
      cases r3
      have hz : ys.length ≤ sizeLine := (I'.list el).elim fun its z => z.2.2
      have eH : upd (upd H1 q (.lst (ys.take 0))) it (ItO l it 0) = H1 := by
        have nqi : q ≠ it := fun z => by rw [z, eit] at eq; cases eq
        funext b
        by_cases h1 : b = it
        · subst h1; rw [upd_same, eit]
        · rw [upd_ne h1]
          by_cases h2 : b = q
          · subst h2; rw [upd_same, eq]; rfl
          · rw [upd_ne h2]
      have loop : ∀ s3, Inv X pins σ H1 s3 → codeAny (model X.prog X.w) X.A.in1 (.builtin "list.extend.loop" ⟨[.ref q, .ref it, .none], []⟩) (wants (fun r s₂ => r = .none ∧ EP X pins σ Q (.ref q) s₂) X.xe) s3 := fun s3 I3 =>
        itr_loop (A1 := X.A.in1) (I2.ok.hd hc) eq eit el hz (fun s4 I4 => ⟨rfl, .ref q, _, I4, rfl, fin⟩) ys.length 0 s3 rfl (Nat.zero_le _) (by rw [eH]; exact I3)
      refine wpAny_ite_split (fun _ => ?_) (fun _ => wpAny_pure ⟨plainId_quiet PySem.F.plain_extend_loop _, loop s' I'⟩)
      refine wpAny_bind (wpAny_rule ?_)
      refine wpAny_bind ?_
      show wpAny _ _ (updateSeq q (·.push .none) >>= fun _ => updateSeq q (·.pop)) _ _ _
      refine wpAny_bind (wpAny_updateSeq e3 rfl ?_)
      have I5 := I'.lset (f := (·.push Value.none)) (its' := [Value.none]) (ys := [.non]) (t' := s'.toks) eq e3 (by simp) (.cons rfl .nil) (by rw [List.length_singleton, sizeLine_eq]; decide)
      obtain ⟨z4, its4, k4, r4, hl4, e4⟩ := I5.lstM upd_same
      obtain ⟨u4, rfl, ru4⟩ := r4.one
      refine wpAny_updateSeq e4 rfl ?_ (by show 1 ≤ sizeLine; rw [sizeLine_eq]; decide) (by show 0 ≤ sizeLine + 1; exact Nat.zero_le _)
      refine wpAny_pure ⟨plainId_quiet PySem.F.plain_extend_loop _, loop _ ?_⟩
      have I6 := I5.lset (f := (·.pop)) (its := [u4]) (its' := []) (ys := []) (t' := s'.toks) upd_same e4 (by rfl) .nil (Nat.zero_le _)
      rw [upd_upd] at I6
      have hH : upd H1 q (.lst []) = H1 := by
        funext b
        by_cases hb : b = q
        · rw [hb, upd_same, eq]
        · rw [upd_ne hb]
      rw [hH] at I6
      exact I6
theorem call_listItr (hc : X.calm = true) (me : Meth X.K C "__iter__" fi) (n1 : NoAttr X.K C "__len__") (n2 : NoAttr X.K C "__length_hint__") (FI : FnOk X.prog X.w X.K X.mg X.base CX0 n fi fdI psI sp) (bI : Binds X.K fdI psI []) (xI : Passes CX0 X E0) (hr : Room (n + 2) X.A) : CallR X (.type "list") (rItr X.K C sp) := by
  intro pins s σ H xs us Q I rv h
  obtain ⟨a, dx, fs, rfl, ha, hq⟩ := h
  obtain ⟨u, rfl, ru⟩ := rv.one
  cases ru
  have sb : Sub X n X.A.in1.in1 := (Sub.in1 (Sub.in1 (⟨hr, rfl⟩ : Sub X (n + 2) X.A)))
  refine callType_codes (Q₁ := fun obj s₁ => obj = .ref s.heap.objs.size ∧ s₁ = { s with heap := s.heap.push { cls := .type "list", data := .seq #[] } }) PySem.F.called_list (PySem.F.typeCall_list_1 _) PySem.F.entry_list_init
    (code_list_new _ ⟨rfl, rfl⟩) fun obj s₁ h₁ => ?_
  obtain ⟨rfl, rfl⟩ := h₁
  have hS : (s.heap.push { cls := .type "list", data := .seq #[] }).get? s.heap.objs.size = some { cls := .type "list", data := .seq #[] } := Heap.get?_push_size _ rfl
  refine ⟨⟨_, hS, rfl⟩, PySem.F.args_list_init_2 _ _, ?_⟩
  have fr : H s.heap.objs.size = none := I.hok.fresh (Nat.le_refl _)
  have hsp := hq _ fr
  generalize hqq : s.heap.objs.size = q at *
  have I1 : Inv X pins σ (upd H q (.lst [])) { s with heap := s.heap.push { cls := .type "list", data := .seq #[] } } := by
    rw [← hqq]; exact I.lnew (its := []) (t' := s.toks) .nil (Nat.zero_le _)
  show wpAny _ _ (do let old ← Builtin.List.listItems (.ref q); Builtin.List.listUpdate (.ref q) (fun _ => #[]); letGo old.toList.reverse; Builtin.List.listExtendWith (.ref q) (.ref a) .none) _ _ _
  refine wpAny_bind ?_
  unfold Builtin.List.listItems
  refine wpAny_bind (wpAny_seqItems hS rfl (wpAny_pure ?_))
  show wpAny _ _ (updateSeq q (fun _ => #[]) >>= fun _ => letGo (#[] : Array Value).toList.reverse >>= fun _ => Builtin.List.listExtendWith (.ref q) (.ref a) .none) _ _ _
  refine wpAny_bind (wpAny_updateSeq hS rfl ?_)
  have I2 := I1.lset (f := fun _ => #[]) (its := []) (its' := []) (ys := []) (t' := s.toks) upd_same hS rfl .nil (Nat.zero_le _)
  rw [upd_upd] at I2
  refine wpAny_bind (wpAny_letGo ?_)
  have ha2 : upd H q (.lst []) a = some (.ins C dx fs) := by rw [upd_ne (ne_of_none ha fr)]; exact ha
  have hq2 : upd H q (.lst []) q = some (.lst []) := upd_same
  generalize upd H q (.lst []) = H2 at *
  exact itr_ext hc me n1 n2 FI bI xI sb I2 ha2 hq2 hsp
end

/-! ### __iter__ as a promise -/
def spIt (K : PySem.W.Frag) (C : Addr) (R : List (Str × PyData) → List PyData → Prop) : Sp := fun vs H Q _ => ∃ (N : Addr → Prop) (v : V) (m : List (Str × PyData)) (ds : List PyData), vs = [v] ∧ (∀ a, N a → H a ≠ none) ∧ ObOk K N H v C m ∧ R m ds ∧
  ∀ it l ys H1, H it = none → Ex H H1 → H1 it = none → SqL K H1 l ys → DnAll K N H1 ys ds → Q (.ref it) (upd H1 it (ItO l it 0))
theorem spIt_len {K : PySem.W.Frag} {C : Addr} {R : List (Str × PyData) → List PyData → Prop} : ∀ vs H Q E, spIt K C R vs H Q E → vs.length = 1 := fun vs H Q E ⟨N, v, m, ds, e, _⟩ => by rw [e]; rfl
def RetIt (c : Cn) (ds : List PyData) (D : Ends) : Prop := ∀ it l ys H1, (∀ a o, c.H0 a = some o → ¬ c.M a → H1 a = some o) → H1 it = none → SqL c.K H1 l ys → DnAll c.K c.N0 H1 ys ds → D.rt (.ref it) (upd H1 it (ItO l it 0))
theorem gs_retIt {c : Cn} {env : Sy} {os : List SO} {te : TE} {u : TS} {D : Ends} {ds : List PyData} (h : EvX true c env os te (.list ds)) (k : RetIt c ds D) : Go c env os (tSeq (tRet (tCB (rIter c.K) (tCons te tNil))) u) D := fun ad σ H ok =>
  h ad σ H ok _ fun v H2 e r => by
    have ok2 := ok.ext e
    have key : ∀ l ys, v = .ref l → SqL c.K H2 l ys → DnAll c.K c.N0 H2 ys ds → ∃ (l : Addr) (zs : List V), [v] = [.ref l] ∧ SqL c.K H2 l zs ∧ ∀ it, H2 it = none → D.rt (.ref it) (upd H2 it (ItO l it 0)) := fun l ys ev sl a =>
      ⟨l, ys, by rw [ev], sl, fun it hit => k it l ys H2 (fun a o z y => ok2.ex a o z y) hit sl a⟩
    cases r with
    | lst r n a => exact key _ _ rfl (Or.inl r) (a.sub fun b z => Nw_n0 b z)
    | lstK r a => exact key _ _ rfl (Or.inr r) (a.sub fun b z => Nw_n0 b z)
theorem run_spIt {K : PySem.W.Frag} {C : Addr} {R : List (Str × PyData) → List PyData → Prop} {vs : List V} {H : Hp} {Q : VK} {E : XK} {Nm : List Str} {t : TS} (h : spIt K C R vs H Q E)
    (g : ∀ N m ds, R m ds → RetIt ⟨K, H, N, fun _ => False, [], 0⟩ ds (De Q) → Go ⟨K, H, N, fun _ => False, [], 0⟩ (envS Nm.length [.ob C m]) [] t (De Q)) : t (De Q) (L2.start Nm vs) H := by
  obtain ⟨N, v, m, ds, rfl, hN, hv, hR, hq⟩ := h
  exact g N m ds hR (fun it l ys H1 ex h1 h2 h3 => hq it l ys H1 (by
    cases hz : H it with
    | none => rfl
    | some o => rw [ex it o hz id] at h1; cases h1) (fun a o z => ex a o z id) h1 h2 h3) _ _ _ (ok_startS hN (.cons hv .nil))
section
variable {X : Cx} {K : PySem.W.Frag} {k j : Nat} {ps : List Str} {C : Addr} {sp : Sp}
theorem crListItr (h : MetP X.prog X.w X.K X.mg X.base k C "__iter__" ps sp) (n1 : NoAttr X.K C "__len__") (n2 : NoAttr X.K C "__length_hint__") (hr : Room j X.A) (hj : k + 2 ≤ j) (hx : Passes CX0 X E0) (hc : X.calm = true := by rfl) : CallR X (.type "list") (rItr X.K C sp) := by
  obtain ⟨f, fd, c, me, G, b⟩ := h
  exact call_listItr hc me n1 n2 G b hx (hr.mono hj)
theorem ef_listB {c : Cn} {env : Sy} {os : List SO} {te : TE} {R : List (Str × PyData) → List PyData → Prop} {m : List (Str × PyData)} {ds : List PyData} (h : EvB c env os te C m) (hR : R m ds) : EvF c env os (tCB (rItr c.K C (spIt c.K C R)) (tCons te tNil)) (.lst (ds.map SV.i)) := fun ad σ H ok Q q =>
  h ad σ H ok _ fun v H1 e1 r1 => by
    obtain ⟨a, dx, fs, ev, ha, hna, hp⟩ := id r1
    subst ev
    refine ⟨a, dx, fs, rfl, ha, fun p hp0 => ?_⟩
    have ok1 := ok.ext e1
    have ex1 : Ex H1 (upd H1 p (.lst [])) := Ex.new hp0
    refine ⟨fun b => Nof c ad os b ∨ b = p, .ref a, m, ds, rfl, fun b z => z.elim (fun z => ex1.some (ok1.nof z)) (fun z => by rw [z, upd_same]; exact fun y => nomatch y), (r1.add hp0).ext ex1, hR, fun it l ys H2 hit e2 hit2 sl dn => ?_⟩
    have hpit : p ≠ it := fun z => by rw [z, upd_same] at hit; cases hit
    have h2p : H2 p = some (.lst []) := e2 _ _ upd_same
    refine ⟨it, l, ys, rfl, upd_same, by rw [upd_ne hpit]; exact h2p, ⟨dx, fs, by
      have := e2 _ _ (ex1 _ _ ha)
      rw [upd_ne (ne_of_none this hit2)]; exact this⟩, ?_, ?_⟩
    · rcases sl with (sl | ⟨u, sl⟩) | sl
      · exact Or.inl (Or.inl (by rw [upd_ne (ne_of_none sl hit2)]; exact sl))
      · exact Or.inl (Or.inr ⟨u, by rw [upd_ne (ne_of_none sl hit2)]; exact sl⟩)
      · exact Or.inr sl
    · have hH : upd (upd (upd H2 it (ItO l it 0)) p (.lst ys)) it (ItE it ys.length) = upd (upd H2 p (.lst ys)) it (ItE it ys.length) := by
        funext b
        by_cases h1 : b = it
        · subst h1; rw [upd_same, upd_same]
        · rw [upd_ne h1, upd_ne h1]
          by_cases h2 : b = p
          · subst h2; rw [upd_same, upd_same]
          · rw [upd_ne h2, upd_ne h2, upd_ne h1]
      rw [hH]
      have m1 := DnAll.mut (p := p) (o := .lst []) (o' := .lst ys) h2p rfl (Or.inr rfl) dn
      have hit3 : upd H2 p (.lst ys) it = none := by rw [upd_ne (Ne.symm hpit)]; exact hit2
      have ex3 : Ex (upd H2 p (.lst ys)) (upd (upd H2 p (.lst ys)) it (ItE it ys.length)) := Ex.new hit3
      refine q p _ (e1.free hp0) (fun b o z => ?_) ⟨ys, by rw [upd_ne hpit, upd_same], dn_paired (m1.ext ex3)⟩
      have hb : b ≠ p := ne_of_none (e1 _ _ z) hp0
      have h3 : H2 b = some o := e2 _ _ (by rw [upd_ne hb]; exact e1 _ _ z)
      rw [upd_ne (ne_of_none h3 hit2), upd_ne hb]
      exact h3
end
/-! ### properties -/
def PropP (P : Program) (w : World) (K : PySem.W.Frag) (mg : Str → Option Value) (base : Heap) (k : Nat) (C : Addr) (f : Str) (sp : Sp) : Prop :=
  ∃ p g fd, Cls K C ∧ PropOf K C f p g ∧ FnOk P w K mg base CX0 k g fd ["self"] sp ∧ Binds K fd ["self"] []
theorem pe_propP {X : Cx} {k j : Nat} {C : Addr} {f : Str} {sp : Sp} {e : Expr} {pos : Pos} {ta : TE} (h : PropP X.prog X.w X.K X.mg X.base k C f sp) (hr : Room j X.A) (hj : k + 1 ≤ j) (hx : Passes CX0 X.nox E0) (he : PE X e ta) (hab : attributeBase e f X.env (eval e X.env) = eval e X.env := by rfl) :
    PE X (.Attribute e f pos) (tProp C sp [] E0 ta) := by
  obtain ⟨p, g, fd, c, po, G, b⟩ := h
  exact pe_prop he c po G (hr.mono hj) b .nil hx hab
theorem ex_prop {w : Bool} {c : Cn} {env : Sy} {os : List SO} {te : TE} {C : Addr} {m : List (Str × PyData)} {d : PyData} {E : XK} {R : List (Str × PyData) → List PyData → PyData → Prop} (h : EvB c env os te C m) (hR : R m [] d) : EvX w c env os (tProp C (spSD c.K C R) [] E te) d := EvX.weak fun ad σ H ok Q q =>
  h ad σ H ok _ fun v H1 e1 r1 => by
    obtain ⟨a, dx, fs, ev, ha, _⟩ := id r1
    subst ev
    exact ⟨a, dx, fs, rfl, ha, Nof c ad os, _, _, m, [], d, rfl, fun b z => (ok.ext e1).nof z, r1, .nil, hR, fun v' H' e' r' => q v' H' (e1.trans e') (by rw [Nw_false]; exact r')⟩
theorem prop_mk {P : Program} {w : World} {K : PySem.W.Frag} {mg : Str → Option Value} {base : Heap} {x qual : Str} {st : Stmt} {p f : Addr} {fd : FuncData} {N : List Str} {k : Nat} {sp : Sp} {C : Addr} (F : FnM K x qual st [] f fd) (S : FnScope N ["self"] (defScope st)) (c : Cls K C) (me : PropOf K C x p f) (len : ∀ vs H Q E, sp vs H Q E → vs.length = 1)
    (hb : ∀ (kV doc pm : Value) (an : Option Addr) (cdv ct : Value) (us : List Value), us.length = 1 → bindArgs (PySem.W.fnOf x qual (defArgs st) (defBody st) (defScope st) .none kV doc pm an cdv ct) ⟨us, []⟩ = pure ((["self"] : List Str).zip us))
    (hbody : ∀ (cdv : Value) (A : Around) (outer : List Env) (s : Shared) (H : Hp) (vs : List V) (Q : VK) (E : XK), Room k (A.deeper (envOfC qual (defScope st) s.heap.objs.size f cdv)) → sp vs H Q E →
      ∃ t, PSs (cxOf CX0 P w K mg base N qual (defScope st) f cdv A outer s H E).nox (defBody st) t ∧ t (De Q) (L2.start N vs) H) : PropP P w K mg base (k + 1) C x sp :=
  ⟨p, f, fd, c, me, F.ok S len fun cdv A outer s H vs Q E hr h => let ⟨t, a, b⟩ := hbody cdv A outer s H vs Q E hr h; ⟨t, a.nox, b⟩, F.bindsN hb⟩
end DL
namespace DL
open PySem PySem.Spec PyProof.Rows L2 He
/-! ### the head's facts of properties -/
structure PrD where
  cl : Str
  f : Str
  d : DefD
def prP (K : PySem.W.Frag) (p : PrD) : Addr := match PySem.W.findIn K (.ref (ga K p.cl)) p.f with
  | some (some (.ref a)) => a
  | _ => 0
def prG (K : PySem.W.Frag) (p : PrD) : Addr := match PySem.W.recIn K (prP K p) "property" with
  | some (.ref g :: _) => g
  | _ => 0
def fnWA (K : PySem.W.Frag) (a : Addr) : FnW := match K.lookup a with
  | some ⟨_, _, .func fd, _⟩ => some (fd.name, fd.qualname, fd.params, fd.body, fd.scope, fd.globals, fd.closure, fd.builtins)
  | _ => none
def okA (K : PySem.W.Frag) (a : Addr) (d : DefD) : Bool := PySem.W.keepIn K (.ref a) && (match K.lookup a with
  | some ⟨_, _, .func fd, _⟩ => PySem.W.codeIn K fd.code d.qual && (dflB K fd.defaults (d.dvs K) && kwdB K fd.kwdefaults (d.kws K))
  | _ => false)
theorem funDA {K : PySem.W.Frag} {a : Addr} {d : DefD} (e : fnWA K a = d.val) (c : okA K a d = true) : ∃ fd, FunD K d.name d.qual d.params d.body d.scope (d.dvs K) (d.kws K) a fd := by
  obtain ⟨kp, c2⟩ := ba c
  unfold fnWA at e
  cases q : K.lookup a with
  | none =>
    rw [q] at c2
    cases c2
  | some o =>
    obtain ⟨oc, od, dt, osl⟩ := o
    rw [q] at c2 e
    cases dt with
    | func fd =>
      obtain ⟨n1, n2, n3, n4, n5, n6, n7, n8, n9, n10, n11, n12, n13, n14, n15⟩ := fd
      have e2 : (some (n1, n2, n3, n4, n5, n6, n7, n15) : FnW) = some (d.name, d.qual, d.params, .stmts d.body, d.scope, mainGlobals, [], builtinsNs) := e
      simp only [Option.some.injEq, Prod.mk.injEq] at e2
      obtain ⟨h1, h2, h3, h4, h5, h6, h7, h8⟩ := e2
      subst h1 h2 h3 h4 h5 h6 h7 h8
      have c3 : (PySem.W.codeIn K n13 d.qual && (dflB K n8 (d.dvs K) && kwdB K n9 (d.kws K))) = true := c2
      obtain ⟨k1, k2⟩ := ba c3
      obtain ⟨k3, k4⟩ := ba k2
      exact ⟨_, ⟨oc, od, n8, n9, n10, n11, n12, n13, n14, osl, rfl, q, k1, dflB_ok k3, kwdB_ok k4⟩, kp⟩
    | _ => cases c2
def PrD.ok (K : PySem.W.Frag) (p : PrD) : Bool := eqO (PySem.W.findIn K (.ref (ga K p.cl)) p.f) (some (some (.ref (prP K p)))) && (eqO (PySem.W.specialIn K (.ref (prP K p)) "__get__") (some (some (.builtin "property.__get__"))) && (decide (PySem.W.takesIn K (.ref (prP K p)) = some true) && ((match PySem.W.recIn K (prP K p) "property" with
  | some (.ref g :: _) => true
  | _ => false) && okA K (prG K p) p.d)))
theorem PrD.prop {K : PySem.W.Frag} {p : PrD} (c : p.ok K = true) : PropOf K (ga K p.cl) p.f (prP K p) (prG K p) := by
  obtain ⟨c1, c⟩ := ba c
  obtain ⟨c2, c⟩ := ba c
  obtain ⟨c3, c⟩ := ba c
  obtain ⟨c4, _⟩ := ba c
  refine ⟨eqO_ok c1, eqO_ok c2, of_decide_eq_true c3, ?_⟩
  unfold prG
  split at c4
  · rename_i g r e
    rw [e]
    exact ⟨r, rfl⟩
  · cases c4
abbrev AlP : Type := AlX × Bool × List FnW
def obsP (n : Nat) (fa : List Fa) (fn : List DefD) (ts : List Tab) (tf : List Defn) (ex : PySem.W.Frag → Bool) (pn : List PrD) (g : Addr → Option Obj) : AlP := (obsX n fa fn ts tf ex g, pn.all (PrD.ok (frT g (asD g n))), pn.map fun p => fnWA (frT g (asD g n)) (prG (frT g (asD g n)) p))
def valP (fn : List DefD) (ts : List Tab) (pn : List PrD) (w : World) : AlP := (valX fn ts w, true, pn.map fun p => p.d.val)
structure SaysP (fa : List Fa) (fn : List DefD) (ts : List Tab) (tf : List Defn) (ex : PySem.W.Frag → Bool) (pn : List PrD) (w : World) (h : Heap) (K : PySem.W.Frag) : Prop where
  x : SaysX fa fn ts tf ex w h K
  b : ∀ p ∈ pn, p.ok K = true
  v : pn.map (fun p => fnWA K (prG K p)) = pn.map fun p => p.d.val
def hookP (n : Nat) (fa : List Fa) (fn : List DefD) (ts : List Tab) (tf : List Defn) (ex : PySem.W.Frag → Bool) (pn : List PrD) : PySem.W.Hook where
  α := AlP
  obs := fun s => obsP n fa fn ts tf ex pn s.heap.get?
  val := fun w => valP fn ts pn w
  says := fun w h => ∃ K : PySem.W.Frag, K.In h ∧ SaysP fa fn ts tf ex pn w h K
  of := fun w s e => ⟨_, frT_in, saysX_of (n := n) (congrArg (fun z : AlP => z.1) e), List.all_eq_true.mp (congrArg (fun z : AlP => z.2.1) e), congrArg (fun z : AlP => z.2.2) e⟩
  keeps := fun _ _ _ ⟨K, hK, c⟩ k => ⟨K, PySem.W.Frag.In.keeps hK k, ⟨c.x.t, c.x.more, c.x.hd, c.x.out, fun p hp => k _ _ (c.x.empty p hp)⟩, c.b, c.v⟩
theorem obsP_eq {n : Nat} {fa : List Fa} {fn : List DefD} {ts : List Tab} {tf : List Defn} {ex : PySem.W.Frag → Bool} {pn : List PrD} {g : Addr → Option Obj} {s : Shared} (h : ∀ a, g a = s.heap.get? a) : obsP n fa fn ts tf ex pn g = (hookP n fa fn ts tf ex pn).obs s := by
  have e : g = s.heap.get? := funext h
  rw [e] <;> rfl
theorem SaysP.prop_ {fa : List Fa} {fn : List DefD} {ts : List Tab} {tf : List Defn} {ex : PySem.W.Frag → Bool} {pn : List PrD} {w : World} {h : Heap} {K : PySem.W.Frag} (c : SaysP fa fn ts tf ex pn w h K) (i : Nat) {p : PrD} (hp : pn[i]? = some p := by rfl) :
    PropOf K (ga K p.cl) p.f (prP K p) (prG K p) ∧ ∃ fd, FunD K p.d.name p.d.qual p.d.params p.d.body p.d.scope (p.d.dvs K) (p.d.kws K) (prG K p) fd := by
  have c1 := c.b p (List.mem_of_getElem? hp)
  have e2 : (pn.map fun p => fnWA K (prG K p))[i]? = (pn.map fun p => p.d.val)[i]? := by rw [c.v]
  rw [List.getElem?_map, List.getElem?_map, hp] at e2
  refine ⟨PrD.prop c1, funDA (Option.some.inj e2) ?_⟩
  obtain ⟨_, c⟩ := ba c1
  obtain ⟨_, c⟩ := ba c
  obtain ⟨_, c⟩ := ba c
  exact (ba c).2
theorem walk_endP {n : Nat} {l : PySem.W.OpenLaw} {k : Nat} {q : Program} {loose : List Str} {XP : (Str → Option Value) → Heap → Prop} {d : DefRec} {fa : List He.Fa} {fn : List He.DefD} {ts : List He.Tab} {tf : List He.Defn} {ex : PySem.W.Frag → Bool} {pn : List PrD} {st : Stmt}
    (hn : l.most = some 63) (hdf : d.params.defaults = []) (hr : Room k callerA) (hd : d.name = ("law" : Str))
    (hba : ∀ (kV doc pm : Value) (an : Option Addr) (cdv ct : Value) (us : List Value), us.length = 1 → bindArgs (PySem.W.fnOf "law" "law" (defArgs st) (defBody st) (defScope st) .none kV doc pm an cdv ct) ⟨us, []⟩ = pure ((["script"] : List Str).zip us))
    (F : ∀ (w : World) (mg : Str → Option Value) (K : PySem.W.Frag) (h : Heap), K.In h → h.Ns mainGlobals mg → SaysP fa fn ts tf ex pn w h K → mg "law" = some (.ref (He.ga K "law")) ∧ ∃ fd, FnP K "law" st (He.ga K "law") fd ∧
      ∀ base : Heap, K.In base → base.Ns mainGlobals mg → FnOk l.prog w K mg base CX0 k (He.ga K "law") fd ["script"] (spD K RLaw)) :
    PySem.W.WalkO q loose XP (hookP n fa fn ts tf ex pn).says l.row.toRowW d [] (fun f vs => PySem.call f vs) := by
  refine L2.walk_ofE (k := k) (x := "script") (CX := CX0) hn (by decide) hdf hr ?_ (fun _ _ _ _ z => z)
  intro w mg fa' h Y G hmg
  obtain ⟨K, KX, c⟩ := Y
  rw [hd] at hmg
  obtain ⟨h0, fd, h1, h2⟩ := F w mg K h KX G c
  rw [h0] at hmg
  cases hmg
  exact ⟨K, fd, spD K RLaw, KX, fun s u => FunD.bindsA (ps := ["script"]) h1 hba s [u] rfl, fun H a ns hl _ hS => law_sp hl hS, h2⟩

end DL
namespace DL
open PySem PySem.Spec PyProof.Rows L2
open Evl (Ex Ex.refl Ex.trans Ex.new)
/-! ### making, with defaults ahead of what is written -/
abbrev CForm2 := Nat × List Str × List (Str × V) × List (Str × V)
def FormOk2 (K : PySem.W.Frag) (fd : FuncData) (ps : List Str) (F : CForm2) : Prop := ∃ da db, KBn K fd ps F.1 F.2.1 (fun us ws => us ++ (da ++ (ws ++ db))) (fun vs zs => vs ++ (F.2.2.1.map (·.2) ++ (zs ++ F.2.2.2.map (·.2))))
def MakP2 (P : Program) (w : World) (K : PySem.W.Frag) (mg : Str → Option Value) (base : Heap) (k : Nat) (x : Str) (C : Addr) (ps : List Str) (sp : Sp) (fs : List CForm2) : Prop :=
  ∃ f fd, Mk K C f ∧ FnOk P w K mg base CX0 k f fd ps sp ∧ (∀ F ∈ fs, FormOk2 K fd ps F) ∧ mg x = some (.ref C)
theorem form_mk2 {K : PySem.W.Frag} {x qual : Str} {params : Arguments} {body : List Stmt} {scope : Scope} {kws : List (Str × V)} {f : Addr} {fd : FuncData} {ps : List Str} (F : FunD K x qual params body scope [] kws f fd) (n : Nat) (ks : List Str) (ma mb : List (Str × V)) (hk : kws ≠ []) (h1 : ∀ q ∈ ma, q ∈ kws) (h2 : ∀ q ∈ mb, q ∈ kws)
    (h : ∀ (D : Addr) (doc pm : Value) (an : Option Addr) (cdv ct : Value) (us va vb ws : List Value), us.length = n → va.length = ma.length → vb.length = mb.length → ws.length = ks.length →
      KwChain D ((ma.map (·.1)).zip va ++ (mb.map (·.1)).zip vb) (bindArgs (PySem.W.fnOf x qual params body scope .none (.ref D) doc pm an cdv ct) ⟨us, ks.zip ws⟩) (ps.zip (us ++ (va ++ (ws ++ vb))))) : FormOk2 K fd ps (n, ks, ma, mb) := by
  obtain ⟨oc, od, dV, kV, doc, pm, an, cdv, ct, osl, rfl, lk, hcd, hD, hK⟩ := F.ex
  rcases hD with ⟨_, rfl⟩ | ⟨e, _⟩
  · rcases hK with e | ⟨D, rfl, hq⟩
    · exact absurd e hk
    · obtain ⟨va, hl, rk, hks⟩ := kwd_vals (ms := ma) fun q hm => hq q (h1 q hm)
      obtain ⟨vb, hl2, rk2, hks2⟩ := kwd_vals (ms := mb) fun q hm => hq q (h2 q hm)
      exact ⟨va, vb, ⟨fun s us ws X l1 l2 => BindsTo.of_looks fun M => KwChain.looks X (fun q hq => (List.mem_append.mp hq).elim (hks q) (hks2 q)) (h D doc pm an cdv ct us va vb ws l1 hl hl2 l2), fun r1 r2 => r1.append (rk.append (r2.append rk2))⟩⟩
  · exact absurd rfl e
theorem mak_mk2 {P : Program} {w : World} {K : PySem.W.Frag} {mg : Str → Option Value} {base : Heap} {x y qual : Str} {st : Stmt} {f : Addr} {fd : FuncData} {N ps : List Str} {k : Nat} {sp : Sp} {C : Addr} {kws : List (Str × V)} {fs : List CForm2} (F : FnM K y qual st kws f fd) (S : FnScope N ps (defScope st)) (M : Mk K C f) (g : mg x = some (.ref C)) (len : ∀ vs H Q E, sp vs H Q E → vs.length = ps.length)
    (hf : ∀ F ∈ fs, FormOk2 K fd ps F)
    (hbody : ∀ (cdv : Value) (A : Around) (outer : List Env) (s : Shared) (H : Hp) (vs : List V) (Q : VK) (E : XK), Room k (A.deeper (envOfC qual (defScope st) s.heap.objs.size f cdv)) → sp vs H Q E →
      ∃ t, PSs (cxOf CX0 P w K mg base N qual (defScope st) f cdv A outer s H E).nox (defBody st) t ∧ t (De Q) (L2.start N vs) H) : MakP2 P w K mg base (k + 1) x C ps sp fs :=
  ⟨f, fd, M, F.ok S len fun cdv A outer s H vs Q E hr h => let ⟨t, a, b⟩ := hbody cdv A outer s H vs Q E hr h; ⟨t, a.nox, b⟩, hf, g⟩
theorem pe_makP2 {X : Cx} {k j : Nat} {ps : List Str} {sp : Sp} {x : Str} {p pos : Pos} {e : Expr} {es : List Expr} {t tk : TA} {C : Addr} {kws : List Keyword} {fs : List CForm2} {n : Nat} {ks : List Str} {ma mb : List (Str × V)} (h : MakP2 X.prog X.w X.K X.mg X.base k x C ps sp fs) (hF : (n + 1, ks, ma, mb) ∈ fs) (hr : Room j X.A) (hj : k + 1 ≤ j) (hg : Gl X x) (hx : Passes CX0 X E0) (ha : PA X (e :: es) t) (hkw : PK X kws tk)
    (hall : (backToKw pos (keywordEach kws X.env)).all (·.1.isSome) = true := by rfl) (hks : (backToKw pos (keywordEach kws X.env)).filterMap (·.1) = ks := by rfl) (hdb : (x == ("__debug__" : Str)) = false := by decide)
    (he : starEach (e :: es) X.env = (false, eval e X.env) :: starEach es X.env := by rfl) (hpl : ((backTo pos (starEach (e :: es) X.env)).any (·.1) || (backToKw pos (keywordEach kws X.env)).any (·.1.isNone)) = false := by rfl) :
    PE X (.Call (.Name x p) (e :: es) kws pos) (tMakeK C n ks.length sp (fun vs zs => vs ++ (ma.map (·.2) ++ (zs ++ mb.map (·.2)))) E0 t tk) := by
  obtain ⟨f, fd, M, G, b, g⟩ := h
  obtain ⟨da, db, hb⟩ := b _ hF
  exact pe_makeK M G (hr.mono hj) hg g hb hx ha hkw hall hks hdb he hpl
theorem eb_make2 {c : Cn} {env : Sy} {os : List SO} {t tk : TA} {C : Addr} {m : List (Str × PyData)} {R : List PyData → List (Str × PyData) → Prop} {E : XK} {n k : Nat} {ds es da db : List PyData} {va vb : List V} (h : EvA false c env os t ds) (hk : EvA false c env os tk es) (ha : ∀ N H, DnAll c.K N H va da) (hb : ∀ N H, DnAll c.K N H vb db) (l1 : ds.length = n) (l2 : es.length = k) (hR : R (ds ++ (da ++ (es ++ db))) m) :
    EvB c env os (tMakeK C n k (spO c.K C R) (fun vs zs => vs ++ (va ++ (zs ++ vb))) E t tk) C m := fun ad σ H ok Q q =>
  h ad σ H ok _ fun vs H1 e1 a1 => hk ad σ H1 (ok.ext e1) _ fun zs H2 e2 a2 => by
    rw [Nw_false] at a1 a2
    have ok2 := (ok.ext e1).ext e2
    refine ⟨a1.length.trans l1, a2.length.trans l2, fun x dx hx hdx hne => ?_⟩
    have e3 : Ex H2 (upd H2 dx (.own x)) := Ex.new hdx
    have hx3 : upd H2 dx (.own x) x = none := by rw [upd_ne (Ne.symm hne)]; exact hx
    have e4 : Ex (upd H2 dx (.own x)) (upd (upd H2 dx (.own x)) x (.ins C dx [])) := Ex.new hx3
    have hnx : ¬ Nof c ad os x := fun z => ok2.nof z hx
    refine ⟨Nof c ad os, x, dx, vs ++ (va ++ (zs ++ vb)), _, m, rfl, upd_same, fun b z => (e3.trans e4).some (ok2.nof z), hnx, ?_, hR, fun H' e' r => ⟨rfl, ?_⟩⟩
    · exact ((DnAll.add hx3 (((a1.ext e2).append ((ha _ _).append (a2.append (hb _ _)))).ext e3)).ext e4)
    · have ex2 : Ex H2 H' := fun a o z => e' a o ((e3.trans e4) a o z) (ne_of_none z hx)
      exact q _ H' ((e1.trans e2).trans ex2) r
theorem kIter {X : Cx} {K : PySem.W.Frag} (h : X.K = K := by rfl) : CallR X (.builtin "iter") (rIter K) := by subst h; exact call_iterL
theorem kListItr {X : Cx} {K : PySem.W.Frag} {k j : Nat} {ps : List Str} {C : Addr} {sp : Sp} {P : Program} {w : World} {mg : Str → Option Value} {base : Heap} (m : MetP P w K mg base k C "__iter__" ps sp) (n1 : NoAttr K C "__len__") (n2 : NoAttr K C "__length_hint__") (hr : Room j X.A) (hj : k + 2 ≤ j) (hx : Passes CX0 X E0) (h : X.K = K := by rfl) (h1 : X.prog = P := by rfl) (h2 : X.w = w := by rfl) (h3 : X.mg = mg := by rfl) (h4 : X.base = base := by rfl) (hc : X.calm = true := by rfl) : CallR X (.type "list") (rItr K C sp) := by
  subst h h1 h2 h3 h4
  exact crListItr m n1 n2 hr hj hx hc
end DL
namespace DL
open PySem PySem.Spec PyProof.Rows L2
open Evl (Ex Ex.refl Ex.trans Ex.new)
/-! ### a def that takes a list over: gives it back, or a new list -/
def spV (K : PySem.W.Frag) (j : Nat) (R : List PyData → List PyData → Prop) : Sp := fun vs H Q _ => ∃ (N : Addr → Prop) (l : Addr) (ds rs es : List PyData) (ws : List V), (∀ a, N a → H a ≠ none) ∧ ¬ N l ∧ H l = some (.lst ws) ∧ DnAll K (fun a => N a ∨ a = l) H ws es ∧ ds[j]? = some (.list es) ∧ Paired (SvOk K (fun a => N a ∨ a = l) (fun _ => l) 1 H) vs ((ds.map SV.i).set j (.r 0)) ∧ R ds rs ∧
  ∀ p H' ws', (p = l ∨ H p = none) → (∀ a o, H a = some o → a ≠ l → H' a = some o) → H' p = some (.lst ws') → DnAll K (fun a => N a ∨ a = p) H' ws' rs → Q (.ref p) H'
theorem spV_len {K : PySem.W.Frag} {j n : Nat} {R : List PyData → List PyData → Prop} (hR : ∀ ds d, R ds d → ds.length = n) : ∀ vs H Q E, spV K j R vs H Q E → vs.length = n := fun vs H Q E ⟨N, l, ds, rs, es, ws, _, _, _, _, _, h, r, _⟩ => by rw [Paired.length h, List.length_set, List.length_map, hR ds rs r]
def RetV (c : Cn) (ds : List PyData) (D : Ends) : Prop := ∀ p H2 ws, (c.H0 p = none ∨ c.M p) → (∀ a o, c.H0 a = some o → ¬ c.M a → H2 a = some o) → H2 p = some (.lst ws) → DnAll c.K (fun a => c.N0 a ∨ a = p) H2 ws ds → D.rt (.ref p) H2
theorem gs_retV {c : Cn} {env : Sy} {os : List SO} {te : TE} {u : TS} {D : Ends} {k : Nat} {ds : List PyData} (h : EvR c env os te k) (hk : os[k]? = some (.lst (ds.map SV.i))) (q : RetV c ds D) : Go c env os (tSeq (tRet te) u) D := fun ad σ H ok =>
  h.2 ad σ H ok _ fun H2 e => by
    have ok2 := ok.ext e
    obtain ⟨h0, vs, h1, h2⟩ := ok2.obj k _ hk rfl
    refine q (ad k) H2 vs h0 ok2.ex h1 ((paired_dn h2).sub fun a z => ?_)
    rcases z with z | z
    · exact Or.inl z
    · exact Or.inr ⟨k, ⟨_, hk, rfl⟩, z⟩
theorem run_spV {K : PySem.W.Frag} {j : Nat} {R : List PyData → List PyData → Prop} {vs : List V} {H : Hp} {Q : VK} {E : XK} {Nm : List Str} {t : TS} (h : spV K j R vs H Q E)
    (g : ∀ N l ds rs es, ds[j]? = some (.list es) → R ds rs → RetV ⟨K, H, N, fun a => a = l, [(.ref l, .r 0)], 1⟩ rs (De Q) → Go ⟨K, H, N, fun a => a = l, [(.ref l, .r 0)], 1⟩ (envS Nm.length ((ds.map SV.i).set j (.r 0))) [.lst (es.map SV.i)] t (De Q)) : t (De Q) (L2.start Nm vs) H := by
  obtain ⟨N, l, ds, rs, es, ws, hN, hnl, hl, hw, hj, hp, hR, hq⟩ := h
  have lv : ∀ k, Lv [SO.lst (es.map SV.i)] k → k = 0 := fun k ⟨o, e, _⟩ => by
    match k, e with
    | 0, _ => rfl
  have hNo : ∀ a, Nof ⟨K, H, N, fun a => a = l, [(.ref l, .r 0)], 1⟩ (fun _ => l) [SO.lst (es.map SV.i)] a → N a ∨ a = l := fun a h => by
    rcases h with h | ⟨k, _, e⟩
    · exact Or.inl h
    · exact Or.inr e
  refine g N l ds rs es hj hR (fun p H2 ws' hp0 ex h1 h2 => hq p H2 ws' (hp0.elim Or.inr Or.inl) (fun a o z ne => ex a o z ne) h1 h2) (fun _ => l) _ _ ?_
  refine ⟨?_, fun a o e _ => e, hN, fun i s e => ?_, fun k o e _ => ?_, fun k j a b _ => (lv k a).trans (lv j b).symm, fun k _ => hnl, fun p hp => ?_, Nat.le_refl _⟩
  · have := Paired.length hp
    unfold L2.start envS; simp at this ⊢; omega
  · unfold envS at e
    have hl2 := Paired.length hp
    by_cases hi : i < ((ds.map SV.i).set j (.r 0)).length
    · rw [List.getElem?_append_left (by simpa using hi), List.getElem?_map] at e
      cases hd : ((ds.map SV.i).set j (.r 0))[i]? with
      | none => rw [hd] at e; cases e
      | some d =>
        rw [hd] at e
        cases e
        obtain ⟨v, h1, h2⟩ := paired_get hp hd
        refine ⟨v, ?_, h2.sub hNo⟩
        unfold L2.start
        rw [List.getElem?_append_left (by rw [List.length_map, hl2]; exact hi), List.getElem?_map, h1]
        rfl
    · rw [List.getElem?_append_right (by simpa using hi), List.getElem?_replicate] at e
      split at e <;> cases e
  · match k, e with
    | 0, e =>
      cases e
      exact ⟨Or.inr rfl, ws, hl, dn_paired (hw.sub hNo)⟩
  · rw [List.mem_singleton.mp hp]
    exact ⟨rfl, Nat.lt_succ_self 0⟩
theorem gs_retCV {c : Cn} {env : Sy} {os : List SO} {ta : TA} {u : TS} {D : Ends} {R : List PyData → List PyData → Prop} {E : XK} {ss : List SV} {ds es rs : List PyData} {j k : Nat} (h : EvAS c env os ta ss) (hss : ss = (ds.map SV.i).set j (.r k)) (hj : ds[j]? = some (.list es)) (hk : os[k]? = some (.lst (es.map SV.i))) (hR : R ds rs) (hM : ∀ a, ¬ c.M a) (q : RetF c rs D) : Go c env os (tSeq (tRet (tCall (spV c.K j R) [] E ta)) u) D := fun ad σ H ok =>
  h ad σ H ok _ fun vs H2 e a => by
    subst hss
    have ok2 := ok.ext e
    obtain ⟨h0, ws, h1, h2⟩ := ok2.obj k _ hk rfl
    have hN : ∀ x, (Nof c ad os x ∧ x ≠ ad k) ∨ x = ad k → Nof c ad os x := fun x z => z.elim (fun z => z.1) fun z => Or.inr ⟨k, ⟨_, hk, rfl⟩, z⟩
    rw [List.append_nil]
    have hpair : ∀ (vs : List V) (ss : List SV), Paired (SvOk c.K (Nof c ad os) ad os.length H2) vs ss → ∀ _i : Nat, (∀ x ∈ ss, (∃ d, x = .i d)) → Paired (SvOk c.K (fun x => (Nof c ad os x ∧ x ≠ ad k) ∨ x = ad k) (fun _ => ad k) 1 H2) vs ss := fun vs ss p => by
      induction p with
      | nil => intro _ _; exact .nil
      | cons r t ih =>
        intro i hx
        refine .cons ?_ (ih i fun x hm => hx x (List.mem_cons_of_mem _ hm))
        obtain ⟨d, rfl⟩ := hx _ (List.mem_cons_self ..)
        exact Dn.sub hN r
    have hset : ∀ (vs : List V) (qs : List PyData) (i : Nat), Paired (SvOk c.K (Nof c ad os) ad os.length H2) vs ((qs.map SV.i).set i (.r k)) → Paired (SvOk c.K (fun x => (Nof c ad os x ∧ x ≠ ad k) ∨ x = ad k) (fun _ => ad k) 1 H2) vs ((qs.map SV.i).set i (.r 0)) := fun vs qs => by
      induction qs generalizing vs with
      | nil => intro i p; cases p; exact .nil
      | cons x qs ih =>
        intro i p
        cases i with
        | zero =>
          cases p with
          | cons r t => exact .cons ⟨r.1, Nat.lt_succ_self 0⟩ (hpair _ _ t 0 fun y hy => by obtain ⟨d, _, rfl⟩ := List.mem_map.mp hy; exact ⟨d, rfl⟩)
        | succ i =>
          cases p with
          | cons r t => exact .cons (Dn.sub hN r) (ih _ i t)
    refine ⟨fun x => Nof c ad os x ∧ x ≠ ad k, ad k, ds, rs, es, ws, fun x z => ok2.nof z.1, fun z => z.2 rfl, h1, (paired_dn h2).sub hN, hj, hset _ _ _ a, hR, fun p H' ws' hp ex hp1 hp2 => ?_⟩
    have h0' := h0.resolve_right (hM _)
    refine q p H' ws' ?_ (fun x o z y => ex x o (ok2.ex x o z y) fun e => ?_) hp1 (hp2.sub fun x z => ?_)
    · rcases hp with z | z
      · rw [z]; exact h0'
      · cases hc : c.H0 p with
        | none => rfl
        | some o => rw [ok2.ex p o hc (hM _)] at z; cases z
    · rw [e, h0'] at z; cases z
    · rcases z with z | z
      · exact Or.inl ⟨Or.inl z, fun e => ok2.nn k ⟨_, hk, rfl⟩ (e ▸ z)⟩
      · exact Or.inr z
end DL
namespace DL
open PySem PySem.Spec PyProof.Rows L2
open Evl (Ex Ex.refl Ex.trans Ex.new)
def absI (i : Int) : Int := if i < 0 then -i else i
theorem ex_abs {w : Bool} {c : Cn} {env : Sy} {os : List SO} {te : TE} {r : List V → Hp → VK → Prop} {i : Int} (hr : r = fun xs H Q => ∃ i, xs = [.int i] ∧ Q (.int (if i < 0 then -i else i)) H) (h : EvX true c env os te (.int i)) : EvX w c env os (tCB r (tCons te tNil)) (.int (absI i)) := fun ad σ H ok Q q => by
  subst hr
  exact h ad σ H ok _ fun v H2 e a => ⟨i, by rw [dn_int a], q _ H2 e (.int _)⟩

/-! ### rfind of a newline; list(range(..)) -/
/-- where the paragraph of the index i begins -/
def bgn (l : List Nat) : Nat → Nat
  | 0 => 0
  | i + 1 => if l[i]? = some 10 then i + 1 else bgn l i
theorem bgn_spec (l : List Nat) : ∀ i, bgn l i ≤ i ∧ (bgn l i = 0 ∨ l[bgn l i - 1]? = some 10) ∧ ∀ j, bgn l i ≤ j → j < i → l[j]? ≠ some 10
  | 0 => ⟨Nat.le_refl _, Or.inl rfl, fun j _ h => by omega⟩
  | i + 1 => by
    obtain ⟨h1, h2, h3⟩ := bgn_spec l i
    unfold bgn
    split
    · rename_i h
      exact ⟨Nat.le_refl _, Or.inr h, fun j _ _ => by omega⟩
    · rename_i h
      refine ⟨by omega, h2, fun j j1 j2 => ?_⟩
      by_cases e : j = i
      · rw [e]; exact h
      · exact h3 j j1 (by omega)
theorem bgn_uniq {l : List Nat} {i b : Nat} (h1 : b ≤ i) (h2 : b = 0 ∨ l[b - 1]? = some 10) (h3 : ∀ j, b ≤ j → j < i → l[j]? ≠ some 10) : bgn l i = b := by
  obtain ⟨g1, g2, g3⟩ := bgn_spec l i
  by_cases a : bgn l i < b
  · rcases h2 with z | z
    · omega
    · exact absurd z (g3 (b - 1) (by omega) (by omega))
  · by_cases a2 : b < bgn l i
    · rcases g2 with z | z
      · omega
      · exact absurd z (h3 (bgn l i - 1) (by omega) (by omega))
    · omega
theorem rfind_bgn (l : List Nat) (i : Nat) (h : i ≤ l.length) : Txt.rfindIn (sT l) ⟨#[10]⟩ 0 (i : Int) = (bgn l i : Int) - 1 := by
  have hx : (sT l).length = l.length := sT_len l
  have hgl : ∀ k : Nat, (sT l).cps[k]? = l[k]? := fun k => by rw [← Array.getElem?_toList, sT_cps]
  have hf : fromIndex (sT l).length 0 = 0 := rfl
  have ht : toIndexW (sT l).length (i : Int) = i := by unfold toIndexW; rw [if_neg (by omega), hx]; omega
  have hat : ∀ v, StrLaws.At (sT l) ⟨#[10]⟩ i v ↔ v < i ∧ l[v]? = some 10 := fun v => by
    have h1 := StrLaws.subAt_one (sT l) 10 v
    rw [Array.getElem?_toList, hgl, hx] at h1
    unfold StrLaws.At
    show v + 1 ≤ i ∧ _ ↔ _
    have h2 : v + (⟨#[10]⟩ : Str).length = v + 1 := rfl
    rw [h2] at h1
    constructor
    · rintro ⟨a, b⟩; exact ⟨a, h1.mp ⟨by omega, b⟩⟩
    · rintro ⟨a, b⟩; exact ⟨a, (h1.mpr b).2⟩
  unfold Txt.rfindIn
  rw [hf, ht, StrLaws.last_eq]
  have key := StrLaws.last_run (sT l) ⟨#[10]⟩ i (List.range' 0 (i + 1 - 0)) [] none (fun _ h => nomatch h) (fun _ h => nomatch h) (by simpa using List.pairwise_lt_range' (s := 0) (n := i + 1 - 0))
  have mem : ∀ v, v < i → v ∈ [] ++ List.range' 0 (i + 1 - 0) := fun v hv => by simp [List.mem_range'] <;> omega
  cases hr : (forIn (List.range' 0 (i + 1 - 0)) none (StrLaws.lastBody (sT l) ⟨#[10]⟩ i)).run with
  | none =>
    rw [hr] at key
    have e : bgn l i = 0 := bgn_uniq (Nat.zero_le _) (Or.inl rfl) fun j _ j2 z => key j (mem j j2) ((hat j).mpr ⟨j2, z⟩)
    rw [e]; rfl
  | some a =>
    rw [hr] at key
    obtain ⟨k1, k2⟩ := key
    obtain ⟨k3, k4⟩ := (hat a).mp k1
    have e : bgn l i = a + 1 := bgn_uniq (by omega) (Or.inr k4) fun j j1 j2 z => k2 j (mem j j2) (by omega) ((hat j).mpr ⟨j2, z⟩)
    rw [e]
    show (a : Int) = _
    omega
theorem ex_rfind {w : Bool} {c : Cn} {env : Sy} {os : List SO} {ta tb te tf : TE} {r : V → List V → Hp → VK → Prop} {l : List Nat} {i : Nat} (hr : r = (fun x xs H Q => ∃ (a b : Str) (i j : Int), x = .str a ∧ xs = [.str b, .int i, .int j] ∧ Q (.int (Txt.rfindIn a b i j)) H)) (ha : EvX true c env os ta (dT l)) (hb : EvX true c env os tb (dT [10])) (h0 : EvX true c env os te (.int 0)) (hi : EvX true c env os tf (.int (i : Int))) (hl : i ≤ l.length) : EvX w c env os (tBM c.K "str" r ta (tCons tb (tCons te (tCons tf tNil)))) (.int ((bgn l i : Int) - 1)) := fun ad σ H ok Q q => by
  subst hr
  refine ha ad σ H ok _ fun v H1 e1 r1 => ⟨by rw [dn_str r1]; rfl, hb ad σ H1 (ok.ext e1) _ fun u H2 e2 r2 => h0 ad σ H2 ((ok.ext e1).ext e2) _ fun z H3 e3 r3 => hi ad σ H3 (((ok.ext e1).ext e2).ext e3) _ fun y H4 e4 r4 => ⟨sT l, sT [10], 0, (i : Int), dn_str r1, by rw [dn_str r2, dn_int r3, dn_int r4], ?_⟩⟩
  rw [show (sT [10]) = (⟨#[10]⟩ : Str) from rfl, rfind_bgn l i hl]
  exact q _ H4 (((e1.trans e2).trans e3).trans e4) (.int _)
/-- the ints lo .. lo + n - 1 -/
def rgI (lo : Int) (n : Nat) : List Int := (List.range n).map fun i : Nat => lo + (i : Int)
theorem ef_listRg1 {c : Cn} {env : Sy} {os : List SO} {te : TE} {n : Nat} (h : EvX true c env os te (.int (n : Int))) (hn : n ≤ 100000) : EvF c env os (tLstRg (tRg1 te)) (.lst (((rgI 0 n).map PyData.int).map SV.i)) := fun ad σ H ok Q q =>
  h ad σ H ok _ fun v H1 e1 r1 => ⟨(n : Int), dn_int r1, RgOk.of_le (by omega) (by omega) (by omega) (by omega), fun p hp => q p _ (e1.free hp) (e1.trans (Ex.new hp)) ⟨_, upd_same, by
    have e : rgV 0 (n : Int) = (rgI 0 n).map V.int := by unfold rgV rgI; rw [List.map_map, show ((n : Int) - 0).toNat = n by omega]; rfl
    rw [e]
    exact dn_paired (DnAll.goF (fun _ _ r => r) _ _ (by
      generalize rgI 0 n = ns
      induction ns with
      | nil => rfl
      | cons a b ih => simpa [noLists, noList] using ih) (ints_dn (K := c.K) (N := fun _ => True) (H := upd H1 p (.lst ((rgI 0 n).map V.int))) _))⟩⟩
theorem ef_listRg2 {c : Cn} {env : Sy} {os : List SO} {ta tb : TE} {lo n : Nat} (h : EvX true c env os ta (.int (lo : Int))) (h2 : EvX true c env os tb (.int ((lo + n : Nat) : Int))) (hn : lo + n ≤ 100000) : EvF c env os (tLstRg (tRg2 ta tb)) (.lst (((rgI (lo : Int) n).map PyData.int).map SV.i)) := fun ad σ H ok Q q =>
  h ad σ H ok _ fun v H1 e1 r1 => h2 ad σ H1 (ok.ext e1) _ fun u H2 e2 r2 => ⟨(lo : Int), ((lo + n : Nat) : Int), dn_int r1, dn_int r2, RgOk.of_le (by omega) (by omega) (by omega) (by omega), fun p hp => q p _ ((e1.trans e2).free hp) ((e1.trans e2).trans (Ex.new hp)) ⟨_, upd_same, by
    have e : rgV (lo : Int) ((lo + n : Nat) : Int) = (rgI (lo : Int) n).map V.int := by unfold rgV rgI; rw [List.map_map, show (((lo + n : Nat) : Int) - (lo : Int)).toNat = n by omega]; rfl
    rw [e]
    exact dn_paired (DnAll.goF (fun _ _ r => r) _ _ (by
      generalize rgI (lo : Int) n = ns
      induction ns with
      | nil => rfl
      | cons a b ih => simpa [noLists, noList] using ih) (ints_dn (K := c.K) (N := fun _ => True) (H := upd H2 p (.lst ((rgI (lo : Int) n).map V.int))) _))⟩⟩
end DL

set_option Elab.async false
set_option linter.all false
set_option maxRecDepth 100000
set_option maxHeartbeats 4000000
open PySem PySem.Spec PyProof.Rows L2 DL
namespace Q
def topS (i : Nat) : Stmt := PySem.Challenge.pw_quirekiln_k19_caret_and_back.main.body.getD i (.Pass ⟨0, 0, 0, 0⟩)
abbrev T4 (x y w h : Int) : PyData := .tuple [.int x, .int y, .int w, .int h]
local macro_rules | `(tactic| walk_at "cc") => `(tactic| first
  | assumption | decide | omega
  | exact Or.inr ⟨by decide, by decide⟩ | exact Or.inl ⟨by decide, by decide⟩
  | (refine Or.inr ⟨?_, ?_⟩ <;> omega) | (refine Or.inl ⟨?_, ?_⟩ <;> omega)
  | (refine ⟨?_, ?_⟩ <;> omega) | (refine wide_div (b := 64) ?_ ?_ (by decide) (by decide) <;> omega) | (dsimp only; omega) | (simp only [CDiv, CMul, CPow]; omega))
local macro_rules | `(tactic| walk_at "at") => `(tactic| first | rfl | exact atI_nat rfl)
local macro_rules | `(tactic| walk_at "v") => `(tactic| first
  | exact ex_int | exact ex_bl | exact ex_non | exact ex_str
  | exact ex_var rfl
  | exact ex_const (by assumption)
  | (refine' ex_i2 ?va ?vb; (case va => walk_at "v"); (case vb => walk_at "v"))
  | (refine' ex_b2 ?va ?vb; (case va => walk_at "v"); (case vb => walk_at "v"))
  | (refine' ex_i2c ?va ?vb ?vc; (case va => walk_at "v"); (case vb => walk_at "v"); (case vc => walk_at "cc"))
  | (refine' ex_u ?va; (case va => walk_at "v"))
  | (refine' ex_tup ?va ?vb; (case va => walk_at "a"); (case vb => exact Nat.le_of_ble_eq_true rfl))
  | (refine' ex_int1 rfl ?va; (case va => walk_at "v"))
  | (refine' ex_and ?va ?vb; (case va => walk_at "v"); (case vb => intro _; walk_at "v"))
  | (refine' ex_or ?va ?vb; (case va => walk_at "v"); (case vb => intro _; walk_at "v"))
  | (refine' ex_not ?va; (case va => walk_at "v"))
  | (refine' ex_chain rfl rfl ?va ?vb ?vc; (case va => walk_at "v"); (case vb => walk_at "v"); (case vc => walk_at "v"))
  | (refine' ex_ixT ?va ?vb ?vc; (case va => walk_at "v"); (case vb => walk_at "v"); (case vc => walk_at "at"))
  | (refine' ex_eqI ?va ?vb; (case va => walk_at "v"); (case vb => walk_at "v"))
  | (refine' ex_neI ?va ?vb; (case va => walk_at "v"); (case vb => walk_at "v"))
  | (refine' ex_eqB ?va ?vb; (case va => walk_at "v"); (case vb => walk_at "v"))
  | (refine' ex_neB ?va ?vb; (case va => walk_at "v"); (case vb => walk_at "v"))
  | (refine' ex_eqD ?va ?vb ?vc ?vd; (case va => walk_at "v"); (case vb => walk_at "v"); (case vc => walk_at "sh"); (case vd => walk_at "sh"))
  | (refine' ex_neD ?va ?vb ?vc ?vd; (case va => walk_at "v"); (case vb => walk_at "v"); (case vc => walk_at "sh"); (case vd => walk_at "sh"))
  | (refine' ex_isi ?va ?vb; (case va => walk_at "v"); (case vb => walk_at "kit"))
  | (refine' ex_lenK ?va; (case va => walk_at "i"))
  | (refine' ex_lenTK ?va; (case va => walk_at "v"))
  | (refine' ex_max2 rfl ?va ?vb; (case va => walk_at "v"); (case vb => walk_at "v"))
  | (refine' ex_min2 rfl ?va ?vb; (case va => walk_at "v"); (case vb => walk_at "v"))
  | (refine' ex_call ?va ?vb; (case va => walk_at "a"); (case vb => walk_at "r"))
  | (refine' EvF.ev ?va; (case va => walk_at "f")))
local macro_rules | `(tactic| walk_at "a") => `(tactic| first
  | exact ea_nil
  | (refine' ea_cons ?va ?vb; (case va => walk_at "v"); (case vb => walk_at "a")))
local macro_rules | `(tactic| walk_at "f") => `(tactic| first
  | (refine' ef_lst (EvA.ss (ds := _) ?va) ?vb; (case va => walk_at "a"); (case vb => exact Nat.le_of_ble_eq_true rfl))
  | (refine' ef_listK ?va; (case va => walk_at "i")))
local macro_rules | `(tactic| walk_at "i") => `(tactic| first
  | (refine' EvX.it ?va; (case va => walk_at "v"))
  | (refine' EvR.it (er_var rfl ?va) rfl; (case va => decide)))
local macro_rules | `(tactic| walk_at "t") => `(tactic| first
  | (refine' et_test ?va; (case va => walk_at "v"))
  | (refine' et_B ?va; (case va => walk_at "v"))
  | (refine' et_and ?va ?vb; (case va => walk_at "t"); (case vb => intro _; walk_at "t"))
  | (refine' et_or ?va ?vb; (case va => walk_at "t"); (case vb => intro _; walk_at "t"))
  | (refine' et_not ?va; (case va => walk_at "t")))
local macro_rules | `(tactic| walk_at "r") => `(tactic| first | assumption | walk_at "r2")
local macro_rules | `(tactic| walk_at "set") => `(tactic| (refine' gs_asg ?va ?_; (case va => walk_at "v")))
local macro_rules | `(tactic| walk_at "env") => `(tactic| simp only [env0, List.map, List.length, List.replicate, List.append, List.cons_append, List.nil_append, Nat.reduceAdd, Nat.reduceSub, Nat.sub_self])
local macro_rules | `(tactic| walk_at "ret") => `(tactic| (refine' gs_ret (EvX.is ?va ?vb) (by assumption); (case va => walk_at "v"); (try (case vb => rfl))))
local macro_rules | `(tactic| walk_at "asg4") => `(tactic| (refine' gs_asgT ?va (tg_tup (tgs_cons tg_name (tgs_cons tg_name (tgs_cons tg_name (tgs_cons tg_name tgs_nil)))) rfl) ?_; (case va => walk_at "v")))
local macro_rules | `(tactic| walk_at "asg3") => `(tactic| (refine' gs_asgT ?va (tg_tup (tgs_cons tg_name (tgs_cons tg_name (tgs_cons tg_name tgs_nil))) rfl) ?_; (case va => walk_at "v")))
local macro_rules | `(tactic| walk_at "nf") => `(tactic| simp only [List.set_cons_zero, List.set_cons_succ])
local macro_rules | `(tactic| walk_at "wk") => `(tactic| (refine g_next ?_; intro ad σ H ok; exact (show OkE _ _ _ _ _ from ⟨ad, ok.weak (by simp [WkE]) (by simp [WkO]) (by simp [EnLt, SvLt]) (by walk_at "osl") (by simp)⟩)))
local macro_rules | `(tactic| walk_at "kit") => `(tactic| first | exact kit_int_int | exact kit_int_bool | exact kit_int_str | exact kit_int_tuple | exact kit_int_list | exact kit_int_dict | exact kit_bool_int | exact kit_bool_bool | exact kit_bool_str | exact kit_bool_tuple | exact kit_bool_list | exact kit_bool_dict | exact kit_str_int | exact kit_str_bool | exact kit_str_str | exact kit_str_tuple | exact kit_str_list | exact kit_str_dict | exact kit_tuple_int | exact kit_tuple_bool | exact kit_tuple_str | exact kit_tuple_tuple | exact kit_tuple_list | exact kit_tuple_dict | exact kit_list_int | exact kit_list_bool | exact kit_list_str | exact kit_list_tuple | exact kit_list_list | exact kit_list_dict | exact kit_NoneType_int | exact kit_NoneType_bool | exact kit_NoneType_str | exact kit_NoneType_tuple | exact kit_NoneType_list | exact kit_NoneType_dict | exact kit_dict_int | exact kit_dict_bool | exact kit_dict_str | exact kit_dict_tuple | exact kit_dict_list | exact kit_dict_dict)
local macro_rules | `(tactic| walk_at "sh") => `(tactic| first | exact shaped_T4 _ _ _ _ | assumption | rfl)
local macro_rules | `(tactic| walk_at "f") => `(tactic| (refine' ef_call ?va ?vb; (case va => walk_at "a"); (case vb => walk_at "r")))
local macro_rules | `(tactic| walk_at "f") => `(tactic| (refine' ef_cat ?va ?vb ?vc; (case va => walk_at "f"); (case vb => walk_at "f"); (case vc => first | exact Nat.le_of_ble_eq_true rfl | assumption)))
local macro_rules | `(tactic| walk_at "skip") => `(tactic| (refine' gs_if (b := false) (EvT.is ?va ?vb) (fun hb => nomatch hb) (fun _ => g_nextU ?_); (case va => walk_at "t"); (case vb => first | rfl | (simp; done))))
local macro_rules | `(tactic| walk_at "t") => `(tactic| (refine' et_truK ?va; (case va => walk_at "i")))
local macro_rules | `(tactic| walk_at "t") => `(tactic| exact et_yes)
local macro_rules | `(tactic| walk_at "js") => `(tactic| (intro j hj; first | (simpa using hj) | (simp at hj; simp [hj])))
local macro_rules | `(tactic| walk_at "we") => `(tactic| simp only [wipeE, List.set_cons_zero, List.set_cons_succ, List.map_cons, List.map_nil])
local macro_rules | `(tactic| walk_at "tg4") => `(tactic| exact tg_tup (tgs_cons tg_name (tgs_cons tg_name (tgs_cons tg_name (tgs_cons tg_name tgs_nil)))) rfl)
local macro_rules | `(tactic| walk_at "osl1") => `(tactic| first | exact soLt_data | exact True.intro | exact soLt_dK | exact soLt_dT)
local macro_rules | `(tactic| walk_at "osl") => `(tactic| first | exact True.intro | (refine ⟨?_, ?_⟩; (walk_at "osl1"); (walk_at "osl")) | simp [OsLt, SoLt, SvLt])
local macro_rules | `(tactic| walk_at "wkP") => `(tactic| (refine g_next ?_; intro ad σ H ok; refine ⟨?_, (show OkE _ _ _ _ _ from ⟨ad, ok.weak (by simp [WkE]) (by simp [WkO]) (by simp [EnLt, SvLt]) (by walk_at "osl") (by simp)⟩)⟩))

abbrev s_advance : Stmt := topS 4
theorem sc_advance : FnScope ["char", "size"] ["char", "size"] (defScope s_advance) := ⟨rfl, rfl, rfl, by decide +kernel, rfl, by decide +kernel, by decide +kernel⟩
def NARL : List Nat := [32, 46, 44, 39, 58, 59, 33, 124, 105, 106, 108]
def WIDL : List Nat := [109, 119, 77, 87, 64]
def adv (s : Int) (c : Nat) : Int := if c = 10 then 0 else if c ∈ NARL then s else if c ∈ WIDL then 3 * s else 2 * s
theorem txt_nl : (Str.ofString "\n") = sT [10] := by decide +kernel
theorem txt_nar : (Str.ofString " .,':;!|ijl") = sT NARL := by decide +kernel
theorem txt_wid : (Str.ofString "mwMW@") = sT WIDL := by decide +kernel
theorem one_eq (c d : Nat) : decide (([c] : List Nat) = [d]) = decide (c = d) := by simp
def wid (s : Int) (l : List Nat) : Int := (l.map (adv s)).sum
theorem wid_app (s : Int) (a b : List Nat) : wid s (a ++ b) = wid s a + wid s b := by unfold wid; rw [List.map_append, List.sum_append]
def offs (s : Int) (l : List Nat) : List Int := (List.range (l.length + 1)).map fun k => wid s (l.take k)
theorem offs_len (s : Int) (l : List Nat) : (offs s l).length = l.length + 1 := by unfold offs; rw [List.length_map, List.length_range]
theorem offs_nil (s : Int) : offs s [] = [0] := rfl
theorem offs_snoc (s : Int) (l : List Nat) (x : Nat) : offs s (l ++ [x]) = offs s l ++ [wid s (l ++ [x])] := by
  unfold offs
  rw [show (l ++ [x]).length + 1 = (l.length + 1) + 1 by simp, List.range_succ, List.map_append]
  congr 1
  · refine List.map_congr_left fun k hk => ?_
    have hk : k < l.length + 1 := List.mem_range.mp hk
    rw [List.take_append_of_le_length (by omega)]
  · simp
    rw [List.take_of_length_le (by simp)]
theorem offs_last (s : Int) (l : List Nat) : (offs s l)[l.length]? = some (wid s l) := by
  unfold offs
  rw [List.getElem?_map, List.getElem?_range (by omega)]
  simp
theorem take_snoc {α : Type} (l : List α) (i : Nat) (x : α) (h : l[i]? = some x) : l.take (i + 1) = l.take i ++ [x] := by rw [List.take_succ, h]; rfl
theorem wid_one (s : Int) (c : Nat) : wid s [c] = adv s c := by simp [wid]
theorem offs_at (s : Int) (l : List Nat) (k : Nat) (h : k ≤ l.length) : (offs s l)[k]? = some (wid s (l.take k)) := by
  unfold offs
  rw [List.getElem?_map, List.getElem?_range (by omega)]
  rfl
/-- the width of a part -/
theorem wid_part (s : Int) (l : List Nat) (a b : Nat) (h : a ≤ b) : wid s ((l.drop a).take (b - a)) = wid s (l.take b) - wid s (l.take a) := by
  have e : l.take b = l.take a ++ (l.drop a).take (b - a) := by
    conv => lhs; rw [show b = a + (b - a) by omega]
    rw [List.take_add]
  rw [e, wid_app]
  omega
theorem adv_nn (s : Int) (hs : 0 ≤ s) (c : Nat) : 0 ≤ adv s c ∧ adv s c ≤ 3 * s := by
  unfold adv
  split
  · omega
  · split
    · omega
    · split <;> omega
theorem wid_nn (s : Int) (hs : 0 ≤ s) : ∀ l : List Nat, 0 ≤ wid s l ∧ wid s l ≤ 3 * s * l.length
  | [] => by simp [wid]
  | c :: l => by
    have h1 := wid_nn s hs l
    have h2 := adv_nn s hs c
    have e : wid s (c :: l) = adv s c + wid s l := by unfold wid; rw [List.map_cons, List.sum_cons]
    rw [e, List.length_cons]
    push_cast
    rw [Int.mul_add]
    omega
def R_advance : List PyData → PyData → Prop := fun ds d => ∃ (c : Nat) (s : Int), 1 ≤ s ∧ s ≤ 1000000 ∧ ds = [dT [c], .int s] ∧ d = .int (adv s c)
theorem R_advance_i {c : Nat} {s : Int} (h1 : 1 ≤ s) (h2 : s ≤ 1000000) : R_advance [dT [c], .int s] (.int (adv s c)) := ⟨c, s, h1, h2, rfl, rfl⟩
local macro_rules | `(tactic| walk_at "r2") => `(tactic| exact R_advance_i (by assumption) (by assumption))
theorem R_advance_len : ∀ ds d, R_advance ds d → ds.length = 2 := by
  intro ds d hh
  unfold R_advance at hh
  repeat (obtain ⟨_, hh⟩ := hh)
  subst_eqs
  rfl
theorem ok_advance {P : Program} {w : World} {K : PySem.W.Frag} {mg : Str → Option Value} {base : Heap} {f : Addr} {fd : FuncData} (F : FnP K "advance" s_advance f fd) (g0 : mg "advance" = some (.ref f)) (c_NARROW : ∃ t, mg "NARROW" = some (.str " .,':;!|ijl" t)) (c_WIDE : ∃ t, mg "WIDE" = some (.str "mwMW@" t)) : Cal P w K mg base 1 "advance" ["char", "size"] (spD K  R_advance) := by
  refine cal_mk F sc_advance g0 (spD_len R_advance_len) (fun _ _ _ _ _ _ us hl => match us, hl with | [_, _], _ => rfl) (fun cdv A outer s H vs Q E hr h => ⟨_,
    (pss_cons (ps_if (pt_cmpR op_eq (pv 0) pe_str (nomark _))
     (pss_cons (ps_ret pe_int)
     pss_nil)
     pss_nil)
     (pss_cons (ps_if (pt_cmpR op_in_sign (pv 0) (C8.pe_gc (v := .str " .,':;!|ijl") (by rfl) (DL.gcs c_NARROW)) (by rfl))
     (pss_cons (ps_ret (pv 1))
     pss_nil)
     pss_nil)
     (pss_cons (ps_if (pt_cmpR op_in_sign (pv 0) (C8.pe_gc (v := .str "mwMW@") (by rfl) (DL.gcs c_WIDE)) (by rfl))
     (pss_cons (ps_ret (pe_op op_mul pe_int (pv 1)))
     pss_nil)
     pss_nil)
     (pss_cons (ps_ret (pe_op op_mul pe_int (pv 1)))
     pss_nil)))), ?_⟩)
  refine run_spD h fun N ds d hR hq => ?_
  obtain ⟨c, s, h1, h2, rfl, rfl⟩ := hR
  walk_at "env"
  have m2 : ∀ k : Int, 0 ≤ k → k ≤ 3 → CMul k s := fun k h3 h4 => Or.inl ⟨by omega, by omega⟩
  refine gs_if (EvT.is (et_test (ex_eqT (ex_var rfl) (ex_txt txt_nl))) (one_eq c 10)) (fun hb => ?_) (fun hb => ?_)
  · have hb : c = 10 := by simpa using hb
    refine gs_ret (EvX.is ex_int ?_) hq
    unfold adv
    rw [if_pos hb]
  · have hb : ¬ c = 10 := by simpa using hb
    refine g_nextU (gs_if (et_test (ex_inS rfl (ex_var rfl) (ex_txt txt_nar))) (fun hc => ?_) (fun hc => ?_))
    · have hc : c ∈ NARL := by simpa using hc
      refine gs_ret (EvX.is (ex_var rfl) ?_) hq
      unfold adv
      rw [if_neg hb, if_pos hc]
    · have hc : ¬ c ∈ NARL := by simpa using hc
      refine g_nextU (gs_if (et_test (ex_inS rfl (ex_var rfl) (ex_txt txt_wid))) (fun hd => ?_) (fun hd => ?_))
      · have hd : c ∈ WIDL := by simpa using hd
        refine gs_ret (EvX.is (ex_i2c ex_int (ex_var rfl) (m2 3 (by decide) (by decide))) ?_) hq
        unfold adv
        rw [if_neg hb, if_neg hc, if_pos hd]
      · have hd : ¬ c ∈ WIDL := by simpa using hd
        refine g_nextU (gs_ret (EvX.is (ex_i2c ex_int (ex_var rfl) (m2 2 (by decide) (by decide))) ?_) hq)
        unfold adv
        rw [if_neg hb, if_neg hc, if_neg hd]
-- END advance
abbrev s_offsets : Stmt := topS 5
theorem sc_offsets : FnScope ["string", "size", "found", "char"] ["string", "size"] (defScope s_offsets) := ⟨rfl, rfl, rfl, by decide +kernel, rfl, by decide +kernel, by decide +kernel⟩
def R_offsets : List PyData → List PyData → Prop := fun ds out => ∃ (l : List Nat) (s : Int), 1 ≤ s ∧ s ≤ 1000000 ∧ l.length ≤ 40000 ∧ ds = [dT l, .int s] ∧ out = (offs s l).map PyData.int
theorem R_offsets_i {l : List Nat} {s : Int} (h1 : 1 ≤ s) (h2 : s ≤ 1000000) (h3 : l.length ≤ 40000) : R_offsets [dT l, .int s] ((offs s l).map PyData.int) := ⟨l, s, h1, h2, h3, rfl, rfl⟩
local macro_rules | `(tactic| walk_at "r2") => `(tactic| exact R_offsets_i (by assumption) (by assumption) (by assumption))
theorem R_offsets_len : ∀ ds d, R_offsets ds d → ds.length = 2 := by
  intro ds d hh
  unfold R_offsets at hh
  repeat (obtain ⟨_, hh⟩ := hh)
  subst_eqs
  rfl
theorem ok_offsets {P : Program} {w : World} {K : PySem.W.Frag} {mg : Str → Option Value} {base : Heap} {f : Addr} {fd : FuncData} (F : FnP K "offsets" s_offsets f fd) (g0 : mg "offsets" = some (.ref f)) (h_advance : Cal P w K mg base 1 "advance" ["char", "size"] (spD K  R_advance)) : Cal P w K mg base 2 "offsets" ["string", "size"] (spF K  R_offsets) := by
  refine cal_mk F sc_offsets g0 (spF_len R_offsets_len) (fun _ _ _ _ _ _ us hl => match us, hl with | [_, _], _ => rfl) (fun cdv A outer s H vs Q E hr h => ⟨_,
    (pss_cons (ps_set (i := 2) sc_offsets.nd rfl (by first | exact Or.inl rfl | exact Or.inr rfl) (pe_lst (pa_cons pe_int pa_nil)))
     (pss_cons (ps_for PassesOwn.never rfl (pi_str (pv 0)) (pg_name (i := 3) sc_offsets.nd rfl (by first | exact Or.inl rfl | exact Or.inr rfl))
     (pss_cons (ps_expr (DL.kBm (K := K) (pe_bm PySem.F.plainAttrs_list PySem.F.slot_list_append PySem.F.type_list_append mt_append (pv 2) (pa_cons (pe_op op_add (pe_ix (DL.kIxL (K := K)) (pv 2) (pe_un un_neg pe_int) (fun _ _ => rfl)) (DL.pe_cal h_advance hr (by decide) (by rfl) pass0 (pa_cons (pv 3) (pa_cons (pv 1) pa_nil)))) pa_nil))))
     pss_nil))
     (pss_cons (ps_ret (pv 2))
     pss_nil))), ?_⟩)
  refine run_spF h fun N ds d hR hq => ?_
  obtain ⟨l, s, h1, h2, h3, rfl, rfl⟩ := hR
  walk_at "env"
  refine' gs_asgF (o := .lst (([PyData.int 0]).map SV.i)) (ef_lst (EvA.ss (ea_cons ex_int ea_nil)) (Nat.le_of_ble_eq_true rfl)) ?_
  walk_at "nf"
  refine' gs_forS (xs := l) (fun _ => [some (.i (dT l)), some (.i (.int s)), some (.r 0), none]) (fun pre => [.lst (((offs s pre).map PyData.int).map SV.i)]) (ex_var rfl) (fun c' _ ad σ H ok => ok) (fun fr up pre x post hx => ⟨_, _, tg_name, ?a1⟩) (gs_retO (er_var rfl (Nat.lt_succ_self 0)) rfl (fun _ => id) hq)
  case a1 =>
  walk_at "nf"
  have hpl : pre.length ≤ 40000 := by
    have := congrArg List.length hx
    rw [List.length_append, List.length_cons] at this
    omega
  have el := offs_len s pre
  refine' gs_app (er_var rfl (Nat.lt_succ_self 0)) rfl (s := .i (.int (wid s pre + adv s x))) ?b1 (by simp [offs_len]; omega) ?_
  case b1 =>
    refine' (show EvX false _ _ _ _ _ from ex_i2 (ex_ixL (i := -1) (EvR.it (er_var rfl (Nat.lt_succ_self 0)) rfl) (ex_u ex_int) ?b2) (ex_call (ea_cons (ex_var rfl) (ea_cons (ex_var rfl) ea_nil)) (R_advance_i h1 h2)))
    case b2 =>
      have hl := offs_last s pre
      have h0 : ¬ (0 : Int) ≤ -1 := by decide
      unfold atI ixN
      rw [if_neg h0, if_pos (by simp [offs_len]; omega)]
      have e : ((-1 : Int) + ((((offs s pre).map PyData.int).map SV.i).length : Nat)).toNat = pre.length := by simp [offs_len]; omega
      rw [e]
      show (((offs s pre).map PyData.int).map SV.i)[pre.length]? = _
      rw [List.getElem?_map, List.getElem?_map, hl]
      rfl
  refine gs_is (os' := [.lst (((offs s (pre ++ [x])).map PyData.int).map SV.i)]) rfl ?c1 ?_
  case c1 => rw [offs_snoc, wid_app]; simp [wid]
  walk_at "wk"
-- END offsets
abbrev s_paragraphs : Stmt := topS 7
theorem sc_paragraphs : FnScope ["string", "found", "start", "part"] ["string"] (defScope s_paragraphs) := ⟨rfl, rfl, rfl, by decide +kernel, rfl, by decide +kernel, by decide +kernel⟩
/-- a pair of indexes -/
abbrev NN := Nat × Nat
def dNN (p : NN) : PyData := .tuple [.int (p.1 : Int), .int (p.2 : Int)]
theorem dNN_inj {p q : NN} (h : dNN p = dNN q) : p = q := by
  unfold dNN at h
  injection h with h
  injection h with h1 h
  injection h with h2 h
  injection h1 with h1
  injection h2 with h2
  exact Prod.ext (by omega) (by omega)
/-! paragraphs -/
def parP : Nat → List (List Nat) → List NN
  | _, [] => []
  | st, p :: ps => (st, st + p.length) :: parP (st + p.length + 1) ps
def tot (ps : List (List Nat)) : Nat := (ps.map fun p => p.length + 1).sum
theorem tot_snoc (ps : List (List Nat)) (p : List Nat) : tot (ps ++ [p]) = tot ps + p.length + 1 := by unfold tot; rw [List.map_append, List.sum_append]; simp; omega
theorem parP_snoc : ∀ (ps : List (List Nat)) (p : List Nat) (st : Nat), parP st (ps ++ [p]) = parP st ps ++ [(st + tot ps, st + tot ps + p.length)]
  | [], p, st => by simp [parP, tot]
  | q :: ps, p, st => by
    rw [List.cons_append]
    unfold parP
    rw [parP_snoc ps p]
    rw [List.cons_append]
    have e : st + q.length + 1 + tot ps = st + tot (q :: ps) := by unfold tot; rw [List.map_cons, List.sum_cons]; omega
    rw [e]
theorem parP_len : ∀ (ps : List (List Nat)) (st : Nat), (parP st ps).length = ps.length
  | [], _ => rfl
  | p :: ps, st => by unfold parP; rw [List.length_cons, parP_len ps, List.length_cons]
theorem tot_split : ∀ l : List Nat, tot (splitC 10 l) = l.length + 1
  | [] => rfl
  | c :: r => by
    have ih := tot_split r
    obtain ⟨p, ps, e⟩ := splitC_ex 10 r
    by_cases h : c = 10
    · subst h
      rw [splitC_hit]
      unfold tot at *
      rw [List.map_cons, List.sum_cons, ih, List.length_cons]
      simp; omega
    · rw [splitC_miss h e]
      rw [e] at ih
      unfold tot at *
      rw [List.map_cons, List.sum_cons] at *
      rw [List.length_cons, List.length_cons]
      omega
def paras (l : List Nat) : List NN := parP 0 (splitC 10 l)
theorem paras_len (l : List Nat) : (paras l).length = 1 + l.count 10 := by unfold paras; rw [parP_len, splitC_len]
/-- where the paragraph behind these begins -/
def parAt (pre : List NN) : Nat := match pre.getLast? with
  | some p => p.2 + 1
  | none => 0
theorem parAt_nil : parAt [] = 0 := rfl
theorem parAt_snoc (pre : List NN) (p : NN) : parAt (pre ++ [p]) = p.2 + 1 := by unfold parAt; rw [List.getLast?_append, List.getLast?_singleton]; rfl
theorem split_free (d : Nat) : ∀ l : List Nat, ∀ p ∈ splitC d l, d ∉ p
  | [], p, hp => by simp [splitC] at hp; subst hp; simp
  | c :: r, p, hp => by
    have ih := split_free d r
    obtain ⟨q, qs, e⟩ := splitC_ex d r
    by_cases h : c = d
    · subst h
      rw [splitC_hit] at hp
      rcases List.mem_cons.mp hp with z | z
      · subst z; simp
      · exact ih p z
    · rw [splitC_miss h e] at hp
      rw [e] at ih
      rcases List.mem_cons.mp hp with z | z
      · subst z
        intro y
        rcases List.mem_cons.mp y with y | y
        · exact h y.symm
        · exact ih q (List.mem_cons_self ..) y
      · exact ih p (List.mem_cons_of_mem _ z)
/-- a text from its parts -/
def glueC (d : Nat) : List (List Nat) → List Nat
  | [] => []
  | [p] => p
  | p :: ps => p ++ d :: glueC d ps
theorem glue_cons (d : Nat) (p q : List Nat) (ps : List (List Nat)) : glueC d (p :: q :: ps) = p ++ d :: glueC d (q :: ps) := rfl
theorem glue_split (d : Nat) : ∀ l : List Nat, glueC d (splitC d l) = l
  | [] => rfl
  | c :: r => by
    have ih := glue_split d r
    obtain ⟨p, ps, e⟩ := splitC_ex d r
    rw [e] at ih
    by_cases h : c = d
    · subst h
      rw [splitC_hit, e, glue_cons, ih]
      rfl
    · rw [splitC_miss h e]
      cases ps with
      | nil =>
        show c :: p = c :: r
        rw [show p = r from ih]
      | cons q qs =>
        rw [glue_cons] at ih ⊢
        rw [List.cons_append, ih]
theorem glue_app (d : Nat) : ∀ (ps qs : List (List Nat)), qs ≠ [] → glueC d (ps ++ qs) = (ps.flatMap fun p => p ++ [d]) ++ glueC d qs
  | [], qs, _ => rfl
  | p :: ps, qs, h => by
    have ih := glue_app d ps qs h
    obtain ⟨q, r, e⟩ : ∃ q r, ps ++ qs = q :: r := by
      cases ps with
      | nil =>
        cases qs with
        | nil => exact absurd rfl h
        | cons q r => exact ⟨q, r, rfl⟩
      | cons q r => exact ⟨q, r ++ qs, rfl⟩
    rw [List.cons_append, e, glue_cons, ← e, ih, List.flatMap_cons]
    simp
theorem tot_flat (d : Nat) (ps : List (List Nat)) : (ps.flatMap fun p => p ++ [d]).length = tot ps := by
  induction ps with
  | nil => rfl
  | cons p ps ih => rw [List.flatMap_cons, List.length_append, ih]; unfold tot; rw [List.map_cons, List.sum_cons]; simp
theorem parP_split : ∀ (ps : List (List Nat)) (st : Nat) (pre : List NN) (x : NN) (post : List NN), parP st ps = pre ++ x :: post → ∃ p1 q p2, ps = p1 ++ q :: p2 ∧ pre = parP st p1 ∧ x = (st + tot p1, st + tot p1 + q.length) ∧ post.length = p2.length
  | [], st, pre, x, post, h => by simp [parP] at h
  | p :: ps, st, [], x, post, h => by
    unfold parP at h
    injection h with h1 h2
    exact ⟨[], p, ps, rfl, rfl, by rw [← h1]; rfl, by rw [← h2, parP_len]⟩
  | p :: ps, st, y :: pre, x, post, h => by
    unfold parP at h
    injection h with h1 h2
    obtain ⟨p1, q, p2, e1, e2, e3, e4⟩ := parP_split ps _ pre x post h2
    refine ⟨p :: p1, q, p2, by rw [e1]; rfl, ?_, ?_, e4⟩
    · rw [e2, ← h1]; rfl
    · have e : st + p.length + 1 + tot p1 = st + tot (p :: p1) := by unfold tot; rw [List.map_cons, List.sum_cons]; omega
      rw [e3, e]
theorem parAt_parP (ps : List (List Nat)) : parAt (parP 0 ps) = tot ps := by
  rcases List.eq_nil_or_concat ps with h | ⟨q, p, h⟩
  · rw [h]; rfl
  · rw [h, List.concat_eq_append, parP_snoc, parAt_snoc, tot_snoc]
    simp only; omega
/-- what is known of a paragraph by its place -/
theorem paras_at {l : List Nat} {pre : List NN} {x : NN} {post : List NN} (h : paras l = pre ++ x :: post) : x.1 = parAt pre ∧ x.1 ≤ x.2 ∧ x.2 ≤ l.length ∧ 10 ∉ (l.drop x.1).take (x.2 - x.1) ∧ (x.2 < l.length → l[x.2]? = some 10) ∧ (post = [] ↔ x.2 = l.length) := by
  obtain ⟨p1, q, p2, e1, e2, e3, e4⟩ := parP_split _ 0 pre x post h
  have hg := glue_split 10 l
  have ht := tot_split l
  rw [e1] at hg ht
  rw [glue_app 10 p1 (q :: p2) (by simp)] at hg
  have hx1 : x.1 = tot p1 := by rw [e3]; simp
  have hx2 : x.2 = tot p1 + q.length := by rw [e3]; simp
  have hf := tot_flat 10 p1
  have hqf := split_free 10 l q (by rw [e1]; simp)
  have hlen : tot (p1 ++ q :: p2) = tot p1 + (q.length + 1) + tot p2 := by unfold tot; rw [List.map_append, List.sum_append, List.map_cons, List.sum_cons]; omega
  have hd : l.drop x.1 = glueC 10 (q :: p2) := by rw [← hg, hx1, ← hf, List.drop_left]
  have htk : (l.drop x.1).take (x.2 - x.1) = q := by
    rw [hd, hx1, hx2, show tot p1 + q.length - tot p1 = q.length by omega]
    cases p2 with
    | nil => show q.take q.length = q; exact List.take_length
    | cons a b => rw [glue_cons]; exact List.take_left
  have hp2 : p2 = [] ↔ tot p2 = 0 := by
    cases p2 with
    | nil => exact ⟨fun _ => rfl, fun _ => rfl⟩
    | cons a b => exact ⟨(fun z => by cases z), fun z => by unfold tot at z; rw [List.map_cons, List.sum_cons] at z; omega⟩
  refine ⟨by rw [hx1, e2, parAt_parP], by omega, by omega, by rw [htk]; exact hqf, fun hlt => ?_, ?_⟩
  · have hne : p2 ≠ [] := fun z => by
      have := hp2.mp z
      omega
    obtain ⟨a, b, rfl⟩ := List.exists_cons_of_ne_nil hne
    have h5 : (l.drop x.1)[q.length]? = some 10 := by
      rw [hd, glue_cons, List.getElem?_append_right (Nat.le_refl _)]
      simp
    rw [List.getElem?_drop] at h5
    rw [hx2, ← hx1]
    exact h5
  · constructor
    · intro z
      have : p2 = [] := List.eq_nil_of_length_eq_zero (by rw [← e4, z]; rfl)
      have := hp2.mp this
      omega
    · intro z
      have : p2 = [] := hp2.mpr (by omega)
      exact List.eq_nil_of_length_eq_zero (by rw [e4, this]; rfl)
theorem paras_last {l : List Nat} : parAt (paras l) = l.length + 1 := by unfold paras; rw [parAt_parP, tot_split]
/-! words -/
/-- a sign that is neither a space nor a newline -/
def ltB (l : List Nat) (k : Nat) : Bool := match l[k]? with
  | some c => !decide (c = 32) && !decide (c = 10)
  | none => false
theorem ltB_at {l : List Nat} {k c : Nat} (h : l[k]? = some c) : ltB l k = (!decide (c = 32) && !decide (c = 10)) := by unfold ltB; rw [h]
abbrev WS := List NN × Option Nat
def wstep (l : List Nat) (st : WS) (i : Nat) : WS := match st.2, ltB l i with
  | none, true => (st.1, some i)
  | none, false => (st.1, none)
  | some b, true => (st.1, some b)
  | some b, false => (st.1 ++ [(b, i)], none)
def wst (l : List Nat) (lo : Nat) : Nat → WS
  | 0 => ([], none)
  | k + 1 => wstep l (wst l lo k) (lo + k)
def wfin (hi : Nat) (st : WS) : List NN := match st.2 with
  | some b => st.1 ++ [(b, hi)]
  | none => st.1
def wordsM (l : List Nat) (lo hi : Nat) : List NN := wfin hi (wst l lo (hi - lo))
def lastE (lo : Nat) (pre : List NN) : Nat := match pre.getLast? with
  | some p => p.2
  | none => lo
theorem lastE_nil (lo : Nat) : lastE lo [] = lo := rfl
theorem lastE_snoc (lo : Nat) (pre : List NN) (p : NN) : lastE lo (pre ++ [p]) = p.2 := by unfold lastE; rw [List.getLast?_append, List.getLast?_singleton]; rfl
def Gap (l : List Nat) (a b : Nat) : Prop := ∀ k, a ≤ k → k < b → ltB l k = false
def Run (l : List Nat) (a b : Nat) : Prop := ∀ k, a ≤ k → k < b → ltB l k = true
/-- the words of the part from lo to hi -/
structure WOk (l : List Nat) (lo hi : Nat) (rows : List NN) : Prop where
  each : ∀ pre s e post, rows = pre ++ (s, e) :: post → lastE lo pre ≤ s ∧ s < e ∧ e ≤ hi ∧ Gap l (lastE lo pre) s ∧ Run l s e ∧ (s = lo ∨ ltB l (s - 1) = false) ∧ (e = hi ∨ ltB l e = false)
  rest : lastE lo rows ≤ hi ∨ rows = []
  gap : Gap l (lastE lo rows) hi
structure WInv (l : List Nat) (lo i : Nat) (st : WS) : Prop where
  each : ∀ pre s e post, st.1 = pre ++ (s, e) :: post → lastE lo pre ≤ s ∧ s < e ∧ e ≤ i ∧ Gap l (lastE lo pre) s ∧ Run l s e ∧ (s = lo ∨ ltB l (s - 1) = false) ∧ ltB l e = false
  cn : st.2 = none → lastE lo st.1 ≤ i ∧ Gap l (lastE lo st.1) i
  cs : ∀ b, st.2 = some b → lastE lo st.1 ≤ b ∧ b < i ∧ Gap l (lastE lo st.1) b ∧ Run l b i ∧ (b = lo ∨ ltB l (b - 1) = false)
theorem snoc_split {α : Type} {f pre post : List α} {x y : α} (h : f ++ [y] = pre ++ x :: post) : (∃ p, post = p ++ [y] ∧ f = pre ++ x :: p) ∨ (post = [] ∧ x = y ∧ f = pre) := by
  rcases List.eq_nil_or_concat post with rfl | ⟨p, z, rfl⟩
  · refine Or.inr ⟨rfl, ?_⟩
    have h2 : f ++ [y] = pre ++ [x] := h
    obtain ⟨h3, h4⟩ := List.append_inj' h2 rfl
    injection h4 with h4
    exact ⟨h4.symm, h3⟩
  · refine Or.inl ⟨p, ?_⟩
    rw [List.concat_eq_append] at h ⊢
    have h2 : f ++ [y] = (pre ++ x :: p) ++ [z] := by rw [h]; simp
    obtain ⟨h3, h4⟩ := List.append_inj' h2 rfl
    injection h4 with h4
    exact ⟨by rw [h4], h3⟩
theorem winv (l : List Nat) (lo : Nat) : ∀ k, WInv l lo (lo + k) (wst l lo k)
  | 0 => ⟨fun pre s e post h => absurd h (by simp [wst]), fun _ => ⟨Nat.le_refl _, fun k h1 h2 => absurd h2 (by simp [wst, lastE] at h1; omega)⟩, fun b h => by simp [wst] at h⟩
  | k + 1 => by
    have ih := winv l lo k
    have step : ∀ st : WS, WInv l lo (lo + k) st → WInv l lo (lo + k + 1) (wstep l st (lo + k)) := by
      intro st ih
      obtain ⟨f, b⟩ := st
      generalize lo + k = i at *
      have each' : ∀ pre s e post, f = pre ++ (s, e) :: post → lastE lo pre ≤ s ∧ s < e ∧ e ≤ i + 1 ∧ Gap l (lastE lo pre) s ∧ Run l s e ∧ (s = lo ∨ ltB l (s - 1) = false) ∧ ltB l e = false := fun pre s e post h => by
        obtain ⟨a1, a2, a3, a4⟩ := ih.each pre s e post h
        exact ⟨a1, a2, by omega, a4⟩
      cases b with
      | none =>
        obtain ⟨c1, c2⟩ := ih.cn rfl
        cases hb : ltB l i with
        | true =>
          have ew : wstep l (f, none) i = (f, some i) := by unfold wstep; simp only [hb]
          rw [ew]
          refine ⟨each', fun z => (by cases z), fun b z => ?_⟩
          injection z with z
          subst z
          refine ⟨c1, Nat.lt_succ_self _, c2, fun k h1 h2 => ?_, ?_⟩
          · have : k = i := by omega
            subst this; exact hb
          · by_cases hz : lastE lo f = i
            · rcases List.eq_nil_or_concat f with h | ⟨g, p, h⟩
              · rw [h, lastE_nil] at hz
                exact Or.inl hz.symm
              · exfalso
                rw [List.concat_eq_append] at h
                obtain ⟨s, e⟩ := p
                have h3 := (ih.each g s e [] h).2.2.2.2.2.2
                rw [h, lastE_snoc] at hz
                have hz : e = i := hz
                rw [hz, hb] at h3
                cases h3
            · have hlt : lastE lo f < i := Nat.lt_of_le_of_ne c1 hz
              exact Or.inr (c2 (i - 1) (Nat.le_sub_one_of_lt hlt) (Nat.sub_lt (Nat.lt_of_le_of_lt (Nat.zero_le _) hlt) Nat.one_pos))
        | false =>
          have ew : wstep l (f, none) i = (f, none) := by unfold wstep; simp only [hb]
          rw [ew]
          refine ⟨each', fun _ => ⟨by have : lastE lo f ≤ i := c1; show lastE lo f ≤ i + 1; omega, fun k h1 h2 => ?_⟩, fun b z => (by cases z)⟩
          by_cases hk : k = i
          · subst hk; exact hb
          · exact c2 k h1 (by omega)
      | some b =>
        obtain ⟨c1, c2, c3, c4, c5⟩ := ih.cs b rfl
        cases hb : ltB l i with
        | true =>
          have ew : wstep l (f, some b) i = (f, some b) := by unfold wstep; simp only [hb]
          rw [ew]
          refine ⟨each', fun z => (by cases z), fun b' z => ?_⟩
          injection z with z
          subst z
          refine ⟨c1, by omega, c3, fun k h1 h2 => ?_, c5⟩
          by_cases hk : k = i
          · subst hk; exact hb
          · exact c4 k h1 (by omega)
        | false =>
          have ew : wstep l (f, some b) i = (f ++ [(b, i)], none) := by unfold wstep; simp only [hb]
          rw [ew]
          refine ⟨fun pre s e post h => ?_, fun _ => ?_, fun b z => (by cases z)⟩
          · rcases snoc_split h with ⟨p, _, h2⟩ | ⟨_, h3, h4⟩
            · exact each' pre s e p h2
            · injection h3 with h5 h6
              subst h5 h6 h4
              exact ⟨c1, c2, by omega, c3, c4, c5, hb⟩
          · show lastE lo (f ++ [(b, i)]) ≤ i + 1 ∧ Gap l (lastE lo (f ++ [(b, i)])) (i + 1)
            rw [lastE_snoc]
            refine ⟨by simp, fun k h1 h2 => ?_⟩
            have : k = i := by simp at h1; omega
            subst this; exact hb
    exact step _ ih
theorem words_ok (l : List Nat) (lo hi : Nat) : WOk l lo hi (wordsM l lo hi) := by
  have h := winv l lo (hi - lo)
  unfold wordsM
  by_cases hlt : lo ≤ hi
  · have e : lo + (hi - lo) = hi := by omega
    rw [e] at h
    generalize wst l lo (hi - lo) = st at h
    obtain ⟨f, b⟩ := st
    cases b with
    | none =>
      have c := h.cn rfl
      exact ⟨fun pre s e post z => let ⟨a1, a2, a3, a4, a5, a6, a7⟩ := h.each pre s e post z; ⟨a1, a2, a3, a4, a5, a6, Or.inr a7⟩, Or.inl c.1, c.2⟩
    | some b =>
      obtain ⟨c1, c2, c3, c4, c5⟩ := h.cs b rfl
      show WOk l lo hi (f ++ [(b, hi)])
      refine ⟨fun pre s e post z => ?_, Or.inl (by rw [lastE_snoc]; exact Nat.le_refl _), by rw [lastE_snoc]; exact fun k h1 h2 => absurd h2 (by simp at h1; omega)⟩
      rcases snoc_split z with ⟨p, _, h2⟩ | ⟨_, h3, h4⟩
      · obtain ⟨a1, a2, a3, a4, a5, a6, a7⟩ := h.each pre s e p h2
        exact ⟨a1, a2, a3, a4, a5, a6, Or.inr a7⟩
      · injection h3 with h5 h6
        subst h5 h6 h4
        exact ⟨c1, c2, Nat.le_refl _, c3, c4, c5, Or.inl rfl⟩
  · rw [show hi - lo = 0 by omega]
    exact ⟨fun pre s e post z => absurd z (by simp [wfin, wst]), Or.inr rfl, fun k h1 h2 => absurd h2 (by simp [wfin, wst, lastE] at h1; omega)⟩
theorem wst_len (l : List Nat) (lo : Nat) : ∀ k, (wst l lo k).1.length ≤ k
  | 0 => Nat.le_refl _
  | k + 1 => by
    have h := wst_len l lo k
    show (wstep l (wst l lo k) (lo + k)).1.length ≤ k + 1
    generalize wst l lo k = st at *
    obtain ⟨f, b⟩ := st
    have h : f.length ≤ k := h
    unfold wstep
    cases b <;> cases ltB l (lo + k) <;> simp <;> omega
def R_paragraphs : List PyData → List PyData → Prop := fun ds out => ∃ l : List Nat, l.length ≤ 40000 ∧ ds = [dT l] ∧ out = (paras l).map dNN
theorem R_paragraphs_i {l : List Nat} (h : l.length ≤ 40000) : R_paragraphs [dT l] ((paras l).map dNN) := ⟨l, h, rfl, rfl⟩
local macro_rules | `(tactic| walk_at "r2") => `(tactic| exact R_paragraphs_i (by first | assumption | omega))
theorem R_paragraphs_len : ∀ ds d, R_paragraphs ds d → ds.length = 1 := by
  intro ds d hh
  unfold R_paragraphs at hh
  repeat (obtain ⟨_, hh⟩ := hh)
  subst_eqs
  rfl
theorem ok_paragraphs {P : Program} {w : World} {K : PySem.W.Frag} {mg : Str → Option Value} {base : Heap} {f : Addr} {fd : FuncData} (F : FnP K "paragraphs" s_paragraphs f fd) (g0 : mg "paragraphs" = some (.ref f)) (z_len : mg "len" = none) : Cal P w K mg base 1 "paragraphs" ["string"] (spF K  R_paragraphs) := by
  refine cal_mk F sc_paragraphs g0 (spF_len R_paragraphs_len) (fun _ _ _ _ _ _ us hl => match us, hl with | [_], _ => rfl) (fun cdv A outer s H vs Q E hr h => ⟨_,
    (pss_cons (ps_set (i := 1) sc_paragraphs.nd rfl (by first | exact Or.inl rfl | exact Or.inr rfl) (pe_lst pa_nil))
     (pss_cons (ps_set (i := 2) sc_paragraphs.nd rfl (by first | exact Or.inl rfl | exact Or.inr rfl) pe_int)
     (pss_cons (ps_for PassesOwn.never rfl (DL.kPiL (K := K) (pe_split (pv 0) pe_str)) (pg_name (i := 3) sc_paragraphs.nd rfl (by first | exact Or.inl rfl | exact Or.inr rfl))
     (pss_cons (ps_expr (DL.kBm (K := K) (pe_bm PySem.F.plainAttrs_list PySem.F.slot_list_append PySem.F.type_list_append mt_append (pv 1) (pa_cons (pe_tup (pa_cons (pv 2) (pa_cons (pe_op op_add (pv 2) (pe_callB call_len_str (by rfl) z_len (by decide +kernel) (pa_cons (pv 3) pa_nil))) pa_nil))) pa_nil))))
     (pss_cons (ps_aug (i := 2) sc_paragraphs.nd rfl (by first | exact Or.inl rfl | exact Or.inr rfl) (pe_op op_add (pe_callB call_len_str (by rfl) z_len (by decide +kernel) (pa_cons (pv 3) pa_nil)) pe_int) ip_add)
     pss_nil)))
     (pss_cons (ps_ret (pv 1))
     pss_nil)))), ?_⟩)
  refine run_spF h fun N ds d hR hq => ?_
  obtain ⟨l, h1, rfl, rfl⟩ := hR
  walk_at "env"
  refine' gs_asgF (o := .lst []) (ef_lst eas_nil (Nat.zero_le _)) ?_
  walk_at "nf"
  refine' gs_asg (d := .int ((0 : Nat) : Int)) ex_int ?_
  walk_at "nf"
  have hcnt : l.count 10 ≤ l.length := List.count_le_length
  refine' gs_forD (xs := splitC 10 l) (f := dT) (fun pre => [some (.i (dT l)), some (.r 0), some (.i (.int ((tot pre : Nat) : Int))), none]) (fun pre => [.lst (((parP 0 pre).map dNN).map SV.i)]) (EvF.ev (ef_split (x := 10) rfl (ex_var rfl) (ex_txt (by decide +kernel)) (by decide) (by omega))) (fun c' _ ad σ H ok => ok) (fun fr up pre p post hx => ⟨_, _, tg_name, ?a1⟩) (gs_retO (er_var rfl (Nat.lt_succ_self 0)) rfl (fun _ => id) hq)
  case a1 =>
  walk_at "nf"
  have hlen : pre.length + 1 + post.length = 1 + l.count 10 := by
    rw [← splitC_len, hx]; simp; omega
  have htot : tot (pre ++ p :: post) = l.length + 1 := by rw [← hx, tot_split]
  have htot2 : tot (pre ++ p :: post) = tot pre + (p.length + 1) + tot post := by unfold tot; rw [List.map_append, List.sum_append, List.map_cons, List.sum_cons]; omega
  have hpl : p.length ≤ 40000 := by omega
  refine' gs_app (er_var rfl (Nat.lt_succ_self 0)) rfl (s := .i (dNN (tot pre, tot pre + p.length))) ?b1 (by simp [parP_len]; omega) ?_
  case b1 =>
    refine' (show EvX false _ _ _ _ _ from EvX.is (ex_tup (ea_cons (ex_var rfl) (ea_cons (ex_i2 (ex_var rfl) (ex_lenS rfl (ex_var rfl) (by omega))) ea_nil)) (Nat.le_of_ble_eq_true rfl)) ?b2)
    case b2 => unfold dNN; simp
  walk_at "nf"
  refine' gs_aug (a := ((tot pre : Nat) : Int)) (b := ((p.length : Nat) : Int) + 1) rfl (ex_i2 (ex_lenS rfl (ex_var rfl) (by omega)) ex_int) ?_
  walk_at "nf"
  refine gs_is (env' := [some (.i (dT l)), some (.r 0), some (.i (.int ((tot (pre ++ [p]) : Nat) : Int))), some (.i (dT p))]) (os' := [.lst (((parP 0 (pre ++ [p])).map dNN).map SV.i)]) ?c1 ?c2 ?_
  case c1 => rw [tot_snoc]; simp; omega
  case c2 => rw [parP_snoc]; simp
  walk_at "wk"
-- END paragraphs
abbrev s_words : Stmt := topS 8
theorem sc_words : FnScope ["string", "start", "end", "found", "begin", "high", "index"] ["string", "start", "end"] (defScope s_words) := ⟨rfl, rfl, rfl, by decide +kernel, rfl, by decide +kernel, by decide +kernel⟩
def R_words : List PyData → List PyData → Prop := fun ds out => ∃ (l : List Nat) (a b : Nat), l.length ≤ 40000 ∧ a ≤ 1000000 ∧ b ≤ 1000000 ∧ ds = [dT l, .int (a : Int), .int (b : Int)] ∧ out = (wordsM l a (min b l.length)).map dNN
def dOp : Option Nat → PyData
  | none => .none
  | some b => .int (b : Int)
theorem R_words_i {l : List Nat} (a b : Nat) (h : l.length ≤ 40000) (ha : a ≤ 1000000) (hb : b ≤ 1000000) : R_words [dT l, .int (a : Int), .int (b : Int)] ((wordsM l a (min b l.length)).map dNN) := ⟨l, a, b, h, ha, hb, rfl, rfl⟩
local macro_rules | `(tactic| walk_at "r2") => `(tactic| exact R_words_i _ _ (by first | assumption | omega) (by first | assumption | omega) (by first | assumption | omega))
theorem R_words_len : ∀ ds d, R_words ds d → ds.length = 3 := by
  intro ds d hh
  unfold R_words at hh
  repeat (obtain ⟨_, hh⟩ := hh)
  subst_eqs
  rfl
theorem ok_words {P : Program} {w : World} {K : PySem.W.Frag} {mg : Str → Option Value} {base : Heap} {f : Addr} {fd : FuncData} (F : FnP K "words" s_words f fd) (g0 : mg "words" = some (.ref f)) (z_min : mg "min" = none) (z_len : mg "len" = none) (z_range : mg "range" = none) (z_max : mg "max" = none) : Cal P w K mg base 1 "words" ["string", "start", "end"] (spF K  R_words) := by
  refine cal_mk F sc_words g0 (spF_len R_words_len) (fun _ _ _ _ _ _ us hl => match us, hl with | [_, _, _], _ => rfl) (fun cdv A outer s H vs Q E hr h => ⟨_,
    (pss_cons (ps_set (i := 3) sc_words.nd rfl (by first | exact Or.inl rfl | exact Or.inr rfl) (pe_lst pa_nil))
     (pss_cons (ps_set (i := 4) sc_words.nd rfl (by first | exact Or.inl rfl | exact Or.inr rfl) pe_non)
     (pss_cons (ps_set (i := 5) sc_words.nd rfl (by first | exact Or.inl rfl | exact Or.inr rfl) (pe_callB (call_min2 rfl) (by rfl) z_min (by decide +kernel) (pa_cons (pv 2) (pa_cons (pe_callB call_len_str (by rfl) z_len (by decide +kernel) (pa_cons (pv 0) pa_nil)) pa_nil))))
     (pss_cons (ps_for PassesOwn.never rfl (pi_range2 (by rfl) z_range (pa_cons (pe_callB (call_max2 rfl) (by rfl) z_max (by decide +kernel) (pa_cons (pv 1) (pa_cons pe_int pa_nil))) (pa_cons (pv 5) pa_nil))) (pg_name (i := 6) sc_words.nd rfl (by first | exact Or.inl rfl | exact Or.inr rfl))
     (pss_cons (ps_if (pt_cmpR (DL.kInSeq (K := K)) (pe_ix ix_str (pv 0) (pv 6) (fun _ _ => rfl)) (pe_tup (pa_cons pe_str (pa_cons pe_str pa_nil))) (by rfl))
     (pss_cons (ps_if (pt_cmpR op_notN (pv 4) pe_non (nomark _))
     (pss_cons (ps_expr (DL.kBm (K := K) (pe_bm PySem.F.plainAttrs_list PySem.F.slot_list_append PySem.F.type_list_append mt_append (pv 3) (pa_cons (pe_tup (pa_cons (pv 4) (pa_cons (pv 6) pa_nil))) pa_nil))))
     pss_nil)
     pss_nil)
     (pss_cons (ps_set (i := 4) sc_words.nd rfl (by first | exact Or.inl rfl | exact Or.inr rfl) pe_non)
     pss_nil))
     (pss_cons (ps_if (pt_cmpR op_isN (pv 4) pe_non (nomark _))
     (pss_cons (ps_set (i := 4) sc_words.nd rfl (by first | exact Or.inl rfl | exact Or.inr rfl) (pv 6))
     pss_nil)
     pss_nil)
     pss_nil))
     pss_nil))
     (pss_cons (ps_if (pt_cmpR op_notN (pv 4) pe_non (nomark _))
     (pss_cons (ps_expr (DL.kBm (K := K) (pe_bm PySem.F.plainAttrs_list PySem.F.slot_list_append PySem.F.type_list_append mt_append (pv 3) (pa_cons (pe_tup (pa_cons (pv 4) (pa_cons (pv 5) pa_nil))) pa_nil))))
     pss_nil)
     pss_nil)
     (pss_cons (ps_ret (pv 3))
     pss_nil)))))), ?_⟩)
  refine run_spF h fun N ds d hR hq => ?_
  obtain ⟨l, a, b, h1, h2, h3, rfl, rfl⟩ := hR
  walk_at "env"
  refine' gs_asgF (o := .lst []) (ef_lst eas_nil (Nat.zero_le _)) ?_
  walk_at "nf"
  refine gs_asg (d := .none) ex_non ?_
  walk_at "nf"
  generalize hhi : min b l.length = hi at *
  have hhl : hi ≤ l.length := by omega
  refine' gs_asg (d := .int (hi : Int)) (EvX.is (ex_min2 rfl (ex_var rfl) (ex_lenS rfl (ex_var rfl) (by omega))) ?a1) ?_
  case a1 => congr 1; rw [← hhi]; omega
  walk_at "nf"
  refine' gs_for (n := hi - a) (fun k => [some (.i (dT l)), some (.i (.int (a : Int))), some (.i (.int (b : Int))), some (.r 0), some (.i (dOp (wst l a k).2)), some (.i (.int (hi : Int))), none]) (fun k => [.lst (((wst l a k).1.map dNN).map SV.i)]) (EvW.is (ew_range2 (lo := (a : Int)) (hi := (hi : Int)) ?b1 (by omega) (by omega)) (by omega)) (fun c' _ ad σ H ok => ok) (fun _ _ => True.intro) (fun fr up k hk => ⟨_, _, tg_name, ?b2⟩) ?b3
  case b1 =>
    refine' ea_cons (EvX.is (ex_max2 rfl (ex_var rfl) ex_int) ?b4) (ea_cons (ex_var rfl) ea_nil)
    case b4 => congr 1; omega
  case b2 =>
    walk_at "nf"
    have hlen := wst_len l a k
    have ek : wst l a (k + 1) = wstep l (wst l a k) (a + k) := rfl
    rw [ek]
    generalize wst l a k = st at *
    obtain ⟨f, bo⟩ := st
    have hlen : f.length ≤ k := hlen
    obtain ⟨x, hx⟩ : ∃ x, l[a + k]? = some x := ⟨l[a + k]'(by omega), List.getElem?_eq_getElem (by omega)⟩
    have hlt := ltB_at hx
    have gx : ∀ (c : Cn) (os : List SO) (w : Bool) (e1 e2 e3 e4 e5 : Option SV), EvX w c [some (.i (dT l)), e1, e2, e3, e4, e5, some (.i (.int ((a : Int) + (k : Int))))] os (tOp rIxS (tVar 0) (tVar 6)) (dT [x]) := fun c os w e1 e2 e3 e4 e5 =>
      ex_ixS (ex_var rfl) (ex_var rfl) (by omega) (by rw [show (a : Int) + (k : Int) = ((a + k : Nat) : Int) by omega]; exact atI_nat hx)
    refine gs_if (b := !ltB l (a + k)) (EvT.is (et_test (ex_inTt (ls := [[32], [10]]) (gx _ _ _ _ _ _ _ _) (EvX.is (ex_tup (ea_cons (ex_txt (l := [32]) (by decide +kernel)) (ea_cons (ex_txt (l := [10]) (by decide +kernel)) ea_nil)) (Nat.le_of_ble_eq_true rfl)) rfl))) ?c1) (fun hb => ?c2) (fun hb => ?c3)
    case c1 =>
      rw [hlt]
      by_cases q1 : x = 32 <;> by_cases q2 : x = 10 <;> simp [q1, q2]
    case c2 =>
      have hb : ltB l (a + k) = false := by simpa using hb
      cases bo with
      | none =>
        refine gs_if (b := false) (EvT.is (et_test (ex_notN rfl (ex_var rfl))) rfl) (fun z => nomatch z) fun _ => ?_
        refine g_nextU (gs_asg (d := .none) ex_non ?_)
        walk_at "nf"
        refine g_nextU (gs_is (env' := [some (.i (dT l)), some (.i (.int (a : Int))), some (.i (.int (b : Int))), some (.r 0), some (.i (dOp (wstep l (f, none) (a + k)).2)), some (.i (.int (hi : Int))), some (.i (.int ((a : Int) + (k : Int))))]) (os' := [.lst (((wstep l (f, none) (a + k)).1.map dNN).map SV.i)]) ?d1 ?d2 ?_)
        case d1 => unfold wstep; simp only [hb]; rfl
        case d2 => unfold wstep; simp only [hb]
        walk_at "wk"
      | some s =>
        refine gs_if (b := true) (EvT.is (et_test (ex_notN rfl (ex_var rfl))) rfl) (fun _ => ?_) (fun z => nomatch z)
        refine' gs_app (er_var rfl (Nat.lt_succ_self 0)) rfl (s := .i (dNN (s, a + k))) ?d3 (by simp; omega) ?_
        case d3 =>
          refine' (show EvX false _ _ _ _ _ from EvX.is (ex_tup (ea_cons (ex_var (d := .int (s : Int)) rfl) (ea_cons (ex_var rfl) ea_nil)) (Nat.le_of_ble_eq_true rfl)) ?d4)
          case d4 => unfold dNN; simp
        walk_at "nf"
        refine g_nextU (gs_asg (d := .none) ex_non ?_)
        walk_at "nf"
        refine g_nextU (gs_is (env' := [some (.i (dT l)), some (.i (.int (a : Int))), some (.i (.int (b : Int))), some (.r 0), some (.i (dOp (wstep l (f, some s) (a + k)).2)), some (.i (.int (hi : Int))), some (.i (.int ((a : Int) + (k : Int))))]) (os' := [.lst (((wstep l (f, some s) (a + k)).1.map dNN).map SV.i)]) ?d1 ?d2 ?_)
        case d1 => unfold wstep; simp only [hb]; rfl
        case d2 => unfold wstep; simp only [hb]; simp
        walk_at "wk"
    case c3 =>
      have hb : ltB l (a + k) = true := by simpa using hb
      cases bo with
      | none =>
        refine gs_if (b := true) (EvT.is (et_test (ex_isN rfl (ex_var rfl))) rfl) (fun _ => ?_) (fun z => nomatch z)
        refine gs_asg (d := .int ((a + k : Nat) : Int)) (EvX.is (ex_var rfl) (by simp)) ?_
        walk_at "nf"
        refine g_nextU (g_nextU (gs_is (env' := [some (.i (dT l)), some (.i (.int (a : Int))), some (.i (.int (b : Int))), some (.r 0), some (.i (dOp (wstep l (f, none) (a + k)).2)), some (.i (.int (hi : Int))), some (.i (.int ((a : Int) + (k : Int))))]) (os' := [.lst (((wstep l (f, none) (a + k)).1.map dNN).map SV.i)]) ?d1 ?d2 ?_))
        case d1 => unfold wstep; simp only [hb]; rfl
        case d2 => unfold wstep; simp only [hb]
        walk_at "wk"
      | some s =>
        refine gs_if (b := false) (EvT.is (et_test (ex_isN rfl (ex_var rfl))) rfl) (fun z => nomatch z) fun _ => ?_
        refine g_nextU (g_nextU (gs_is (env' := [some (.i (dT l)), some (.i (.int (a : Int))), some (.i (.int (b : Int))), some (.r 0), some (.i (dOp (wstep l (f, some s) (a + k)).2)), some (.i (.int (hi : Int))), some (.i (.int ((a : Int) + (k : Int))))]) (os' := [.lst (((wstep l (f, some s) (a + k)).1.map dNN).map SV.i)]) ?d1 ?d2 ?_))
        case d1 => unfold wstep; simp only [hb]
        case d2 => unfold wstep; simp only [hb]
        walk_at "wk"
  case b3 =>
  have hwl := wst_len l a (hi - a)
  have ew : wordsM l a hi = wfin hi (wst l a (hi - a)) := rfl
  rw [ew] at hq
  generalize wst l a (hi - a) = st at *
  obtain ⟨f, bo⟩ := st
  have hwl : f.length ≤ hi - a := hwl
  cases bo with
  | none =>
    refine gs_if (b := false) (EvT.is (et_test (ex_notN rfl (ex_var rfl))) rfl) (fun z => nomatch z) fun _ => ?_
    exact g_nextU (gs_retO (er_var rfl (Nat.lt_succ_self 0)) rfl (fun _ => id) hq)
  | some s =>
    refine gs_if (b := true) (EvT.is (et_test (ex_notN rfl (ex_var rfl))) rfl) (fun _ => ?_) (fun z => nomatch z)
    refine' gs_app (er_var rfl (Nat.lt_succ_self 0)) rfl (s := .i (dNN (s, hi))) ?e1 (by simp; omega) ?_
    case e1 => exact (show EvX false _ _ _ _ _ from ex_tup (ea_cons (ex_var (d := .int (s : Int)) rfl) (ea_cons (ex_var rfl) ea_nil)) (Nat.le_of_ble_eq_true rfl))
    walk_at "nf"
    refine g_nextU (gs_is (os' := [.lst (((wfin hi (f, some s)).map dNN).map SV.i)]) rfl (by simp [wfin]) ?_)
    exact gs_retO (er_var rfl (Nat.lt_succ_self 0)) rfl (fun _ => id) hq
-- END words
abbrev s__break_paragraph : Stmt := topS 12
theorem sc__break_paragraph : FnScope ["parts", "sums", "width", "found", "start", "end"] ["parts", "sums", "width"] (defScope s__break_paragraph) := ⟨rfl, rfl, rfl, by decide +kernel, rfl, by decide +kernel, by decide +kernel⟩
/-! lines -/
def brk1 (S : Nat → Int) (w : Int) (f : List NN) (p : NN) : List NN := match f.getLast? with
  | some q => if S p.2 - S q.1 ≤ w then f.dropLast ++ [(q.1, p.2)] else f ++ [p]
  | none => [p]
def brk (S : Nat → Int) (w : Int) (ps : List NN) : List NN := ps.foldl (brk1 S w) []
theorem brk_snoc (S : Nat → Int) (w : Int) (ps : List NN) (p : NN) : brk S w (ps ++ [p]) = brk1 S w (brk S w ps) p := by unfold brk; rw [List.foldl_append]; rfl
theorem brk1_nil (S : Nat → Int) (w : Int) (p : NN) : brk1 S w [] p = [p] := rfl
theorem brk1_snoc (S : Nat → Int) (w : Int) (f : List NN) (q p : NN) : brk1 S w (f ++ [q]) p = if S p.2 - S q.1 ≤ w then f ++ [(q.1, p.2)] else f ++ [q] ++ [p] := by
  unfold brk1
  rw [List.getLast?_append, List.getLast?_singleton]
  simp only [Option.some_or, List.dropLast_concat]
theorem brk_len (S : Nat → Int) (w : Int) (ps : List NN) : (brk S w ps).length ≤ ps.length := by
  have go : ∀ (ps f : List NN), (ps.foldl (brk1 S w) f).length ≤ f.length + ps.length := by
    intro ps
    induction ps with
    | nil => intro f; exact Nat.le_refl _
    | cons p ps ih =>
      intro f
      have h1 := ih (brk1 S w f p)
      have h2 : (brk1 S w f p).length ≤ f.length + 1 := by
        rcases List.eq_nil_or_concat f with rfl | ⟨g, q, rfl⟩
        · exact Nat.le_refl _
        · rw [List.concat_eq_append, brk1_snoc]; split <;> simp
      rw [List.foldl_cons, List.length_cons]
      omega
  simpa [brk] using go ps []
def lineOf (g : List NN) : NN := ((g.head?.getD (0, 0)).1, (g.getLast?.getD (0, 0)).2)
structure Grp (S : Nat → Int) (w : Int) (ws : List NN) (gs : List (List NN)) (rows : List NN) : Prop where
  flat : gs.flatten = ws
  ne : ∀ g ∈ gs, g ≠ []
  rows : rows = gs.map lineOf
  fit : ∀ g ∈ gs, g.length = 1 ∨ S (lineOf g).2 - S (lineOf g).1 ≤ w
  full : ∀ a g h b, gs = a ++ g :: h :: b → ∃ f, h.head? = some f ∧ w < S f.2 - S (lineOf g).1
theorem lineOf_one (p : NN) : lineOf [p] = p := rfl
theorem lineOf_snoc {g : List NN} (h : g ≠ []) (p : NN) : lineOf (g ++ [p]) = ((lineOf g).1, p.2) := by
  obtain ⟨a, r, rfl⟩ := List.exists_cons_of_ne_nil h
  unfold lineOf
  rw [List.getLast?_append, List.getLast?_singleton]
  rfl
theorem brk_grp (S : Nat → Int) (w : Int) : ∀ (n : Nat) (ws : List NN), ws.length = n → ∃ gs, Grp S w ws gs (brk S w ws) := by
  intro n
  induction n with
  | zero =>
    intro ws h
    have := List.eq_nil_of_length_eq_zero h
    subst this
    exact ⟨[], rfl, fun g hg => absurd hg (List.not_mem_nil), rfl, fun g hg => absurd hg (List.not_mem_nil), fun a g h b e => absurd e (by simp)⟩
  | succ n ih =>
    intro ws hn
    rcases List.eq_nil_or_concat ws with rfl | ⟨ws, p, rfl⟩
    · cases hn
    rw [List.concat_eq_append] at *
    obtain ⟨gs, G⟩ := ih ws (by simpa using hn)
    rw [brk_snoc]
    rcases List.eq_nil_or_concat gs with rfl | ⟨g0, g, rfl⟩
    · have hr : brk S w ws = [] := G.rows
      have hw : ws = [] := G.flat.symm
      rw [hr, brk1_nil, hw]
      refine ⟨[[p]], rfl, fun g hg => ?_, rfl, fun g hg => ?_, fun a g h b e => ?_⟩
      · rw [List.mem_singleton.mp hg]; simp
      · rw [List.mem_singleton.mp hg]; exact Or.inl rfl
      · exact absurd (congrArg List.length e) (by simp; omega)
    · rw [List.concat_eq_append] at G
      have hgne : g ≠ [] := G.ne g (by simp)
      have hr : brk S w ws = g0.map lineOf ++ [lineOf g] := by rw [G.rows, List.map_append]; rfl
      rw [hr, brk1_snoc]
      by_cases hf : S p.2 - S (lineOf g).1 ≤ w
      · rw [if_pos hf]
        refine ⟨g0 ++ [g ++ [p]], ?_, fun x hx => ?_, ?_, fun x hx => ?_, fun a x h b e => ?_⟩
        · rw [← G.flat]; simp
        · rcases List.mem_append.mp hx with z | z
          · exact G.ne x (List.mem_append_left _ z)
          · rw [List.mem_singleton.mp z]; simp
        · rw [List.map_append]; show _ = _ ++ [lineOf (g ++ [p])]; rw [lineOf_snoc hgne]
        · rcases List.mem_append.mp hx with z | z
          · exact G.fit x (List.mem_append_left _ z)
          · rw [List.mem_singleton.mp z, lineOf_snoc hgne]; exact Or.inr hf
        · have e2 : g0 ++ [g ++ [p]] = (a ++ [x]) ++ h :: b := by rw [e]; simp
          rcases snoc_split e2 with ⟨q, e3, e4⟩ | ⟨e3, e4, e5⟩
          · exact G.full a x h (q ++ [g]) (by rw [e4]; simp)
          · obtain ⟨f, h1, h2⟩ := G.full a x g [] (by rw [e5]; simp)
            refine ⟨f, ?_, h2⟩
            rw [e4]
            obtain ⟨y, r, rfl⟩ := List.exists_cons_of_ne_nil hgne
            exact h1
      · rw [if_neg hf]
        refine ⟨g0 ++ [g] ++ [[p]], ?_, fun x hx => ?_, ?_, fun x hx => ?_, fun a x h b e => ?_⟩
        · rw [← G.flat]; simp
        · rcases List.mem_append.mp hx with z | z
          · exact G.ne x z
          · rw [List.mem_singleton.mp z]; simp
        · rw [List.map_append, List.map_append]; rfl
        · rcases List.mem_append.mp hx with z | z
          · exact G.fit x z
          · rw [List.mem_singleton.mp z]; exact Or.inl rfl
        · have e2 : g0 ++ [g] ++ [[p]] = (a ++ [x]) ++ h :: b := by rw [e]; simp
          rcases snoc_split e2 with ⟨q, e3, e4⟩ | ⟨e3, e4, e5⟩
          · exact G.full a x h q (by rw [e4]; simp)
          · obtain ⟨e6, e7⟩ := List.append_inj' e5 rfl
            injection e7 with e7
            refine ⟨p, by rw [e4]; rfl, ?_⟩
            rw [← e7]
            omega
theorem lastE_flat (lo : Nat) : ∀ gs : List (List NN), (∀ g ∈ gs, g ≠ []) → lastE lo gs.flatten = lastE lo (gs.map lineOf) := fun gs h => by
  rcases List.eq_nil_or_concat gs with rfl | ⟨g0, g, rfl⟩
  · rfl
  · rw [List.concat_eq_append] at *
    have hg : g ≠ [] := h g (by simp)
    rcases List.eq_nil_or_concat g with rfl | ⟨i, t, rfl⟩
    · exact absurd rfl hg
    · rw [List.concat_eq_append]
      rw [List.map_append, List.flatten_append]
      show lastE lo (g0.flatten ++ (i ++ [t] ++ [])) = lastE lo (g0.map lineOf ++ [lineOf (i ++ [t])])
      rw [List.append_nil, ← List.append_assoc, lastE_snoc, lastE_snoc]
      unfold lineOf
      rw [List.getLast?_append, List.getLast?_singleton]
      rfl
theorem wok_mono {l : List Nat} {lo hi : Nat} {rows : List NN} (hw : WOk l lo hi rows) : ∀ (m pre : List NN) (x : NN), rows = pre ++ x :: m → ∀ y ∈ m, x.2 ≤ y.1 ∧ y.1 < y.2 := by
  intro m
  induction m with
  | nil => intro pre x h y hy; cases hy
  | cons z m ih =>
    intro pre x h y hy
    obtain ⟨s, e⟩ := z
    have h2 : rows = (pre ++ [x]) ++ (s, e) :: m := by rw [h]; simp
    obtain ⟨a1, a2, _⟩ := hw.each _ s e m h2
    rw [lastE_snoc] at a1
    rcases List.mem_cons.mp hy with q | q
    · subst q; exact ⟨a1, a2⟩
    · obtain ⟨b1, b2⟩ := ih (pre ++ [x]) (s, e) h2 y q
      exact ⟨by simp only at b1; omega, b2⟩
/-- the lines of a paragraph with words -/
structure LOk (l : List Nat) (S : Nat → Int) (w : Int) (lo hi : Nat) (L : List NN) : Prop where
  each : ∀ a s e b, L = a ++ (s, e) :: b → lastE lo a ≤ s ∧ s < e ∧ e ≤ hi ∧ Gap l (lastE lo a) s ∧ ltB l s = true ∧ ltB l (e - 1) = true ∧ (s = lo ∨ ltB l (s - 1) = false) ∧ (e = hi ∨ ltB l e = false) ∧ (Run l s e ∨ S e - S s ≤ w)
  next : ∀ a s e s' e' b, L = a ++ (s, e) :: (s', e') :: b → ∃ m, s' < m ∧ m ≤ e' ∧ Run l s' m ∧ (m = hi ∨ ltB l m = false) ∧ w < S m - S s
  gap : Gap l (lastE lo L) hi
  low : ∀ a s e b, L = a ++ (s, e) :: b → lo ≤ lastE lo a
theorem map_split {α β : Type} {f : α → β} {gs : List α} {a b : List β} {y : β} (h : gs.map f = a ++ y :: b) : ∃ ga g gb, gs = ga ++ g :: gb ∧ a = ga.map f ∧ y = f g ∧ b = gb.map f := by
  obtain ⟨ga, r, e1, e2, e3⟩ := List.map_eq_append_iff.mp h
  obtain ⟨g, gb, e4, e5, e6⟩ := List.map_eq_cons_iff.mp e3
  exact ⟨ga, g, gb, by rw [e1, e4], e2.symm, e5.symm, e6.symm⟩
theorem wok_low {l : List Nat} {lo hi : Nat} {rows : List NN} (hw : WOk l lo hi rows) : ∀ (n : Nat) (g : List NN) (p : NN) (post : List NN), g.length = n → rows = g ++ p :: post → lo ≤ lastE lo g ∧ lo ≤ p.2 := by
  intro n
  induction n with
  | zero =>
    intro g p post hn hh
    have hg := List.eq_nil_of_length_eq_zero hn
    subst hg
    obtain ⟨s, e⟩ := p
    obtain ⟨a1, a2, _⟩ := hw.each [] s e post hh
    rw [lastE_nil] at a1 ⊢
    exact ⟨Nat.le_refl _, by simp only; omega⟩
  | succ n ih =>
    intro g p post hn hh
    rcases List.eq_nil_or_concat g with z | ⟨g2, p2, z⟩
    · rw [z] at hn; cases hn
    · rw [List.concat_eq_append] at z
      subst z
      obtain ⟨s, e⟩ := p
      obtain ⟨a1, a2, _⟩ := hw.each _ s e post hh
      rw [lastE_snoc] at a1 ⊢
      have := (ih g2 p2 ((s, e) :: post) (by simpa using hn) (by rw [hh]; simp)).2
      exact ⟨this, by simp only; omega⟩
theorem lok {l : List Nat} {S : Nat → Int} {w : Int} {lo hi : Nat} {ws : List NN} (hw : WOk l lo hi ws) : LOk l S w lo hi (brk S w ws) := by
  obtain ⟨gs, G⟩ := brk_grp S w _ ws rfl
  have hL := G.rows
  generalize brk S w ws = L at *
  subst hL
  have key : ∀ ga g gb, gs = ga ++ g :: gb → ∃ f t r i, g = f :: r ∧ g = i ++ [t] ∧ lineOf g = (f.1, t.2) ∧ f.2 ≤ t.2 ∧ ws = ga.flatten ++ f :: (r ++ gb.flatten) ∧ ws = (ga.flatten ++ i) ++ t :: gb.flatten := fun ga g gb e => by
    have hg : g ≠ [] := G.ne g (by rw [e]; simp)
    obtain ⟨f, r, e1⟩ := List.exists_cons_of_ne_nil hg
    rcases List.eq_nil_or_concat g with z | ⟨i, t, e2⟩
    · exact absurd z hg
    rw [List.concat_eq_append] at e2
    have w1 : ws = ga.flatten ++ f :: (r ++ gb.flatten) := by rw [← G.flat, e, e1]; simp
    have w2 : ws = (ga.flatten ++ i) ++ t :: gb.flatten := by rw [← G.flat, e, e2]; simp
    refine ⟨f, t, r, i, e1, e2, ?_, ?_, w1, w2⟩
    · unfold lineOf
      have h1 : g.head? = some f := by rw [e1]; rfl
      have h2 : g.getLast? = some t := by rw [e2, List.getLast?_append, List.getLast?_singleton]; rfl
      rw [h1, h2]; rfl
    · have ht : t ∈ f :: r := by rw [← e1, e2]; simp
      rcases List.mem_cons.mp ht with z | z
      · rw [z]; exact Nat.le_refl _
      · obtain ⟨b1, b2⟩ := wok_mono hw (r ++ gb.flatten) _ f w1 t (List.mem_append_left _ z)
        omega
  refine ⟨fun a s e b h => ?_, fun a s e s' e' b h => ?_, ?_, fun a s e b h => ?_⟩
  · obtain ⟨ga, g, gb, e1, e2, e3, e4⟩ := map_split h
    obtain ⟨f, t, r, i, g1, g2, g3, g4, w1, w2⟩ := key ga g gb e1
    rw [g3] at e3
    injection e3 with e5 e6
    obtain ⟨a1, a2, a3, a4, a5, a6, a7⟩ := hw.each _ f.1 f.2 _ w1
    obtain ⟨b1, b2, b3, b4, b5, b6, b7⟩ := hw.each _ t.1 t.2 _ w2
    rw [lastE_flat lo ga (fun x hx => G.ne x (by rw [e1]; exact List.mem_append_left _ hx)), ← e2] at a1 a4
    subst e5 e6
    refine ⟨a1, by omega, b3, a4, a5 _ (Nat.le_refl _) a2, b5 _ (by omega) (by omega), a6, b7, ?_⟩
    rcases G.fit g (by rw [e1]; simp) with z | z
    · have hr : r = [] := List.eq_nil_of_length_eq_zero (by rw [g1] at z; simpa using z)
      have : t = f := by
        rw [g1, hr] at g2
        have h3 : ([] : List NN) ++ [f] = i ++ [t] := g2
        obtain ⟨_, h4⟩ := List.append_inj' h3 rfl
        injection h4 with h4
        exact h4.symm
      rw [this]
      exact Or.inl a5
    · rw [g3] at z; exact Or.inr z
  · obtain ⟨ga, g, gb, e1, e2, e3, e4⟩ := map_split h
    obtain ⟨gc, h2, gd, e5, e6, e7, e8⟩ := map_split (a := []) e4.symm
    have hc : gc = [] := List.map_eq_nil_iff.mp e6.symm
    subst hc
    rw [List.nil_append] at e5
    rw [e5] at e1
    obtain ⟨f, t, r, i, g1, g2, g3, g4, w1, w2⟩ := key ga g (h2 :: gd) e1
    obtain ⟨f', t', r', i', k1, k2, k3, k4, v1, v2⟩ := key (ga ++ [g]) h2 gd (by rw [e1]; simp)
    obtain ⟨q, hq1, hq2⟩ := G.full ga g h2 gd e1
    rw [k1] at hq1
    injection hq1 with hq1
    subst hq1
    obtain ⟨a1, a2, a3, a4, a5, a6, a7⟩ := hw.each _ f'.1 f'.2 _ v1
    rw [k3] at e7
    injection e7 with e9 e10
    rw [← e3] at hq2
    subst e9 e10
    exact ⟨f'.2, a2, k4, a5, a7, hq2⟩
  · have := hw.gap
    rw [← G.flat, lastE_flat lo gs G.ne] at this
    exact this
  · obtain ⟨ga, g, gb, e1, e2, e3, e4⟩ := map_split h
    obtain ⟨f, t, r, i, g1, g2, g3, g4, w1, w2⟩ := key ga g gb e1
    have := (wok_low hw _ _ f _ rfl w1).1
    rw [lastE_flat lo ga (fun x hx => G.ne x (by rw [e1]; exact List.mem_append_left _ hx)), ← e2] at this
    exact this
/-- the lines of a paragraph, of a text -/
def plines (l : List Nat) (S : Nat → Int) (w : Int) (p : NN) : List NN := if brk S w (wordsM l p.1 p.2) = [] then [(p.1, p.1)] else brk S w (wordsM l p.1 p.2)
def sumsOf (s : Int) (l : List Nat) (k : Nat) : Int := wid s (l.take k)
def lines (l : List Nat) (s w : Int) : List NN := (paras l).flatMap (plines l (sumsOf s l) w)
theorem brk_nil {S : Nat → Int} {w : Int} {ws : List NN} (h : brk S w ws = []) : ws = [] := by
  obtain ⟨gs, G⟩ := brk_grp S w _ ws rfl
  have h1 := G.rows
  rw [h] at h1
  have h2 : gs = [] := List.map_eq_nil_iff.mp h1.symm
  rw [← G.flat, h2]; rfl
theorem words_len (l : List Nat) (lo hi : Nat) : (wordsM l lo hi).length ≤ hi - lo + 1 := by
  have h := wst_len l lo (hi - lo)
  unfold wordsM wfin
  split
  · rw [List.length_append]; simp; omega
  · omega
theorem plines_len (l : List Nat) (S : Nat → Int) (w : Int) (p : NN) : (plines l S w p).length ≤ p.2 - p.1 + 1 := by
  unfold plines
  split
  · simp
  · exact Nat.le_trans (brk_len _ _ _) (words_len _ _ _)
theorem plines_few (l : List Nat) (S : Nat → Int) (w : Int) : ∀ (pre post : List NN), paras l = pre ++ post → (pre.flatMap (plines l S w)).length ≤ parAt pre := by
  have go : ∀ (n : Nat) (pre post : List NN), pre.length = n → paras l = pre ++ post → (pre.flatMap (plines l S w)).length ≤ parAt pre := by
    intro n
    induction n with
    | zero =>
      intro pre post h1 h2
      rw [List.eq_nil_of_length_eq_zero h1]
      exact Nat.le_refl _
    | succ n ih =>
      intro pre post h1 h2
      rcases List.eq_nil_or_concat pre with z | ⟨q, p, z⟩
      · rw [z] at h1; cases h1
      · rw [List.concat_eq_append] at z
        subst z
        have h3 : paras l = q ++ p :: post := by rw [h2]; simp
        have h4 := ih q (p :: post) (by simpa using h1) h3
        obtain ⟨a1, a2, _⟩ := paras_at h3
        have h5 := plines_len l S w p
        rw [List.flatMap_append, List.length_append, parAt_snoc]
        simp only [List.flatMap_cons, List.flatMap_nil, List.append_nil]
        omega
  exact fun pre post h => go _ pre post rfl h
theorem flatMap_split {α β : Type} {f : α → List β} : ∀ {ps : List α} {a b : List β} {y : β}, ps.flatMap f = a ++ y :: b → ∃ p1 p p2 c d, ps = p1 ++ p :: p2 ∧ f p = c ++ y :: d ∧ a = p1.flatMap f ++ c ∧ b = d ++ p2.flatMap f
  | [], a, b, y, h => by simp at h
  | p :: ps, a, b, y, h => by
    rw [List.flatMap_cons] at h
    rcases List.append_eq_append_iff.mp h with ⟨c, e1, e2⟩ | ⟨c, e1, e2⟩
    · obtain ⟨p1, q, p2, c2, d, h1, h2, h3, h4⟩ := flatMap_split e2
      exact ⟨p :: p1, q, p2, c2, d, by rw [h1]; rfl, h2, by rw [e1, h3, List.flatMap_cons, List.append_assoc], h4⟩
    · cases c with
      | nil =>
        rw [List.nil_append] at e2
        obtain ⟨p1, q, p2, c2, d, h1, h2, h3, h4⟩ := flatMap_split (a := []) e2.symm
        refine ⟨p :: p1, q, p2, c2, d, by rw [h1]; rfl, h2, ?_, h4⟩
        have h5 := List.append_eq_nil_iff.mp h3.symm
        rw [List.flatMap_cons, h5.1, h5.2]
        simpa using e1.symm
      | cons z c =>
        rw [List.cons_append] at e2
        injection e2 with e3 e4
        subst e3
        exact ⟨[], p, ps, a, c, rfl, e1, rfl, e4⟩
theorem brk_mem (S : Nat → Int) (w : Int) : ∀ (n : Nat) (ps : List NN), ps.length = n → ∀ q ∈ brk S w ps, (∃ p ∈ ps, q.1 = p.1) ∧ (∃ p ∈ ps, q.2 = p.2) := by
  intro n
  induction n with
  | zero => intro ps h q hq; rw [List.eq_nil_of_length_eq_zero h] at hq; cases hq
  | succ n ih =>
    intro ps h q hq
    rcases List.eq_nil_or_concat ps with z | ⟨ps, p, z⟩
    · rw [z] at h; cases h
    rw [List.concat_eq_append] at z
    subst z
    have hi := ih ps (by simpa using h)
    have old : q ∈ brk S w ps → (∃ p' ∈ ps ++ [p], q.1 = p'.1) ∧ (∃ p' ∈ ps ++ [p], q.2 = p'.2) := fun hq => by
      obtain ⟨⟨a, ha, h1⟩, ⟨b, hb, h2⟩⟩ := hi q hq
      exact ⟨⟨a, List.mem_append_left _ ha, h1⟩, ⟨b, List.mem_append_left _ hb, h2⟩⟩
    have new : q = p → (∃ p' ∈ ps ++ [p], q.1 = p'.1) ∧ (∃ p' ∈ ps ++ [p], q.2 = p'.2) := fun e => ⟨⟨p, by simp, by rw [e]⟩, ⟨p, by simp, by rw [e]⟩⟩
    rw [brk_snoc] at hq
    rcases List.eq_nil_or_concat (brk S w ps) with z | ⟨g, y, z⟩
    · rw [z, brk1_nil] at hq
      exact new (List.mem_singleton.mp hq)
    · rw [List.concat_eq_append] at z
      rw [z, brk1_snoc] at hq
      rw [z] at hi old
      split at hq
      · rcases List.mem_append.mp hq with x | x
        · exact old (List.mem_append_left _ x)
        · have x := List.mem_singleton.mp x
          obtain ⟨⟨a, ha, h1⟩, _⟩ := hi y (by simp)
          exact ⟨⟨a, List.mem_append_left _ ha, by rw [x]; exact h1⟩, ⟨p, by simp, by rw [x]⟩⟩
      · rcases List.mem_append.mp hq with x | x
        · exact old x
        · exact new (List.mem_singleton.mp x)
def R__break_paragraph : List PyData → List PyData → Prop := fun ds out => ∃ (ps : List NN) (l : List Nat) (s w : Int), (∀ p ∈ ps, p.1 ≤ l.length ∧ p.2 ≤ l.length) ∧ ps.length ≤ 50000 ∧ ds = [.list (ps.map dNN), .list ((offs s l).map PyData.int), .int w] ∧ out = (brk (sumsOf s l) w ps).map dNN
theorem R__break_paragraph_i {ps : List NN} {l : List Nat} {s w : Int} (h : ∀ p ∈ ps, p.1 ≤ l.length ∧ p.2 ≤ l.length) (h2 : ps.length ≤ 50000) : R__break_paragraph [.list (ps.map dNN), .list ((offs s l).map PyData.int), .int w] ((brk (sumsOf s l) w ps).map dNN) := ⟨ps, l, s, w, h, h2, rfl, rfl⟩
local macro_rules | `(tactic| walk_at "r2") => `(tactic| exact R__break_paragraph_i (by assumption) (by assumption))
theorem R__break_paragraph_len : ∀ ds d, R__break_paragraph ds d → ds.length = 3 := by
  intro ds d hh
  unfold R__break_paragraph at hh
  repeat (obtain ⟨_, hh⟩ := hh)
  subst_eqs
  rfl
theorem ok__break_paragraph {P : Program} {w : World} {K : PySem.W.Frag} {mg : Str → Option Value} {base : Heap} {f : Addr} {fd : FuncData} (F : FnP K "_break_paragraph" s__break_paragraph f fd) (g0 : mg "_break_paragraph" = some (.ref f)) : Cal P w K mg base 1 "_break_paragraph" ["parts", "sums", "width"] (spF K  R__break_paragraph) := by
  refine cal_mk F sc__break_paragraph g0 (spF_len R__break_paragraph_len) (fun _ _ _ _ _ _ us hl => match us, hl with | [_, _, _], _ => rfl) (fun cdv A outer s H vs Q E hr h => ⟨_,
    (pss_cons (ps_set (i := 3) sc__break_paragraph.nd rfl (by first | exact Or.inl rfl | exact Or.inr rfl) (pe_lst pa_nil))
     (pss_cons (ps_for PassesOwn.never rfl (DL.kPiL (K := K) (pv 0)) (DL.kTup (K := K) (n := 2) rfl (pgs_cons (pg_name (i := 4) sc__break_paragraph.nd rfl (by first | exact Or.inl rfl | exact Or.inr rfl)) (pgs_cons (pg_name (i := 5) sc__break_paragraph.nd rfl (by first | exact Or.inl rfl | exact Or.inr rfl)) pgs_nil)))
     (pss_cons (ps_if (PW.pt (pw_and (DL.kTru (K := K) (pv 3) (by intro _; rfl)) (pw_and1 (pt_cmpR op_le (pe_op op_sub (pe_ix (DL.kIxL (K := K)) (pv 1) (pv 5) (fun _ _ => rfl)) (pe_ix (DL.kIxL (K := K)) (pv 1) (pe_ix (DL.kIxT (K := K)) (pe_ix (DL.kIxL (K := K)) (pv 3) (pe_un un_neg pe_int) (fun _ _ => rfl)) pe_int (fun _ _ => rfl)) (fun _ _ => rfl))) (pv 2) (nomark _)))))
     (pss_cons (ps_asg (pe_tup (pa_cons (pe_ix (DL.kIxT (K := K)) (pe_ix (DL.kIxL (K := K)) (pv 3) (pe_un un_neg pe_int) (fun _ _ => rfl)) pe_int (fun _ _ => rfl)) (pa_cons (pv 5) pa_nil))) (pg_sub (pv 3) (pe_un un_neg pe_int) set_list))
     pss_nil)
     (pss_cons (ps_expr (DL.kBm (K := K) (pe_bm PySem.F.plainAttrs_list PySem.F.slot_list_append PySem.F.type_list_append mt_append (pv 3) (pa_cons (pe_tup (pa_cons (pv 4) (pa_cons (pv 5) pa_nil))) pa_nil))))
     pss_nil))
     pss_nil))
     (pss_cons (ps_ret (pv 3))
     pss_nil))), ?_⟩)
  refine run_spF h fun N ds d hR hq => ?_
  obtain ⟨ps, l, s, w, hb, hl, rfl, rfl⟩ := hR
  walk_at "env"
  refine' gs_asgF (o := .lst []) (ef_lst eas_nil (Nat.zero_le _)) ?_
  walk_at "nf"
  refine' gs_forD (xs := ps) (f := dNN) (fun _ => [some (.i (.list (ps.map dNN))), some (.i (.list ((offs s l).map PyData.int))), some (.i (.int w)), some (.r 0), none, none]) (fun pre => [.lst (((brk (sumsOf s l) w pre).map dNN).map SV.i)]) (ex_var rfl) (fun c' _ ad σ H ok => ok) (fun fr up pre p post hx => ⟨_, _, tg_tup (ds := [.int (p.1 : Int), .int (p.2 : Int)]) (tgs_cons tg_name (tgs_cons tg_name tgs_nil)) rfl, ?a1⟩) (gs_retO (er_var rfl (Nat.lt_succ_self 0)) rfl (fun _ => id) hq)
  case a1 =>
  walk_at "nf"
  have hpl : pre.length + 1 ≤ 50000 := by
    have := congrArg List.length hx
    rw [List.length_append, List.length_cons] at this
    omega
  have hfl := brk_len (sumsOf s l) w pre
  have hmem := brk_mem (sumsOf s l) w _ pre rfl
  have hp := hb p (by rw [hx]; simp)
  rw [brk_snoc]
  have hpre : ∀ q ∈ pre, q.1 ≤ l.length ∧ q.2 ≤ l.length := fun q hq => hb q (by rw [hx]; exact List.mem_append_left _ hq)
  generalize brk (sumsOf s l) w pre = f at *
  obtain ⟨a, b⟩ := p
  simp only at hp
  rcases List.eq_nil_or_concat f with rfl | ⟨g, q, rfl⟩
  · rw [brk1_nil]
    refine' gs_if (b := false) (EvT.is (et_and (a := false) (b := false) (EvT.is (et_truK (EvR.it (er_var rfl (Nat.lt_succ_self 0)) rfl)) ?b1) (fun z => nomatch z)) rfl) (fun z => nomatch z) fun _ => ?_
    case b1 => rfl
    refine' gs_app (er_var rfl (Nat.lt_succ_self 0)) rfl (s := .i (dNN (a, b))) ?b2 (by simp) ?_
    case b2 => exact (show EvX false _ _ _ _ _ from ex_tup (ea_cons (ex_var rfl) (ea_cons (ex_var rfl) ea_nil)) (Nat.le_of_ble_eq_true rfl))
    refine g_nextU ?_
    walk_at "nf"
    refine gs_is (os' := [.lst ((([(a, b)] : List NN).map dNN).map SV.i)]) rfl rfl ?_
    walk_at "wk"
  · rw [List.concat_eq_append] at *
    rw [brk1_snoc]
    have hgl : g.length + 1 ≤ 50000 := by simp at hfl; omega
    obtain ⟨⟨x, hx1, hx2⟩, _⟩ := hmem q (by simp)
    have hq1 : q.1 ≤ l.length := by rw [hx2]; exact (hpre x hx1).1
    have gt : ∀ (c : Cn) (e1 e2 e3 e5 e6 : Option SV) (w : Bool), EvX w c [e1, e2, e3, some (.r 0), e5, e6] [.lst (((g ++ [q]).map dNN).map SV.i)] (tOp (rIxL c.K) (tVar 3) (tUn (rU fun i => .int (-i)) (tC (.int 1)))) (dNN q) := fun c e1 e2 e3 e5 e6 w => by
      refine ex_ixL (i := -1) (EvR.it (er_var rfl (Nat.lt_succ_self 0)) rfl) (ex_u ex_int) ?_
      rw [List.map_append, List.map_append]
      exact atI_last _ _
    have gf : ∀ (c : Cn) (e1 e2 e3 e5 e6 : Option SV) (w : Bool), EvX w c [e1, e2, e3, some (.r 0), e5, e6] [.lst (((g ++ [q]).map dNN).map SV.i)] (tOp (rIxT c.K) (tOp (rIxL c.K) (tVar 3) (tUn (rU fun i => .int (-i)) (tC (.int 1)))) (tC (.int 0))) (.int (q.1 : Int)) := fun c e1 e2 e3 e5 e6 w => ex_ixT (ds := [.int (q.1 : Int), .int (q.2 : Int)]) (gt _ _ _ _ _ _ _) ex_int (atI_nat rfl)
    have so : ∀ k, k ≤ l.length → atI ((offs s l).map PyData.int) (k : Int) = some (.int (sumsOf s l k)) := fun k hk => atI_nat (by rw [List.getElem?_map, offs_at s l k hk]; rfl)
    refine' gs_if (b := decide (sumsOf s l b - sumsOf s l q.1 ≤ w)) (EvT.is (et_and (a := true) (b := decide (sumsOf s l b - sumsOf s l q.1 ≤ w)) (EvT.is (et_truK (EvR.it (er_var rfl (Nat.lt_succ_self 0)) rfl)) ?c1) (fun _ => et_test (ex_b2 (ex_i2 (ex_ixLD (ex_var rfl) (ex_var rfl) (so b hp.2)) (ex_ixLD (ex_var rfl) (gf _ _ _ _ _ _ _) (so q.1 hq1))) (ex_var rfl)))) rfl) (fun hb => ?c3) (fun hb => ?c4)
    case c1 => simp
    case c3 =>
      have hb : sumsOf s l b - sumsOf s l q.1 ≤ w := by simpa using hb
      rw [if_pos hb]
      refine' gs_setI (j := g.length) (s := .i (dNN (q.1, b))) ?d1 (er_var rfl (Nat.lt_succ_self 0)) rfl (ex_u ex_int) ?d2 ?_
      case d1 => exact (show EvX false _ _ _ _ _ from ex_tup (ea_cons (gf _ _ _ _ _ _ _) (ea_cons (ex_var rfl) ea_nil)) (Nat.le_of_ble_eq_true rfl))
      case d2 =>
        rw [show (((g ++ [q]).map dNN).map SV.i).length = g.length + 1 by simp]
        exact ixN_last _
      walk_at "nf"
      refine g_nextU ?_
      refine gs_is (os' := [.lst (((g ++ [(q.1, b)]).map dNN).map SV.i)]) rfl ?d3 ?_
      case d3 =>
        rw [List.map_append, List.map_append, List.map_append, List.map_append, List.set_append_right _ _ (by simp)]
        simp
      walk_at "wk"
    case c4 =>
      have hb : ¬ sumsOf s l b - sumsOf s l q.1 ≤ w := by simpa using hb
      rw [if_neg hb]
      refine' gs_app (er_var rfl (Nat.lt_succ_self 0)) rfl (s := .i (dNN (a, b))) ?e2 (by simp; omega) ?_
      case e2 => exact (show EvX false _ _ _ _ _ from ex_tup (ea_cons (ex_var rfl) (ea_cons (ex_var rfl) ea_nil)) (Nat.le_of_ble_eq_true rfl))
      refine g_nextU ?_
      walk_at "nf"
      refine gs_is (os' := [.lst (((g ++ [q] ++ [(a, b)]).map dNN).map SV.i)]) rfl (by simp) ?_
      walk_at "wk"
-- END _break_paragraph
abbrev s_break_lines : Stmt := topS 9
theorem sc_break_lines : FnScope ["string", "size", "width", "sums", "found", "start", "end"] ["string", "size", "width"] (defScope s_break_lines) := ⟨rfl, rfl, rfl, by decide +kernel, rfl, by decide +kernel, by decide +kernel⟩
def R_break_lines : List PyData → List PyData → Prop := fun ds out => ∃ (l : List Nat) (s w : Int), 1 ≤ s ∧ s ≤ 1000000 ∧ l.length ≤ 40000 ∧ ds = [dT l, .int s, .int w] ∧ out = (lines l s w).map dNN
theorem R_break_lines_i {l : List Nat} {s w : Int} (h1 : 1 ≤ s) (h2 : s ≤ 1000000) (h3 : l.length ≤ 40000) : R_break_lines [dT l, .int s, .int w] ((lines l s w).map dNN) := ⟨l, s, w, h1, h2, h3, rfl, rfl⟩
local macro_rules | `(tactic| walk_at "r2") => `(tactic| exact R_break_lines_i (by assumption) (by assumption) (by omega))
theorem R_break_lines_len : ∀ ds d, R_break_lines ds d → ds.length = 3 := by
  intro ds d hh
  unfold R_break_lines at hh
  repeat (obtain ⟨_, hh⟩ := hh)
  subst_eqs
  rfl
theorem ok_break_lines {P : Program} {w : World} {K : PySem.W.Frag} {mg : Str → Option Value} {base : Heap} {f : Addr} {fd : FuncData} (F : FnP K "break_lines" s_break_lines f fd) (g0 : mg "break_lines" = some (.ref f)) (h_offsets : Cal P w K mg base 2 "offsets" ["string", "size"] (spF K  R_offsets)) (h_paragraphs : Cal P w K mg base 1 "paragraphs" ["string"] (spF K  R_paragraphs)) (h__break_paragraph : Cal P w K mg base 1 "_break_paragraph" ["parts", "sums", "width"] (spF K  R__break_paragraph)) (h_words : Cal P w K mg base 1 "words" ["string", "start", "end"] (spF K  R_words)) : Cal P w K mg base 3 "break_lines" ["string", "size", "width"] (spF K  R_break_lines) := by
  refine cal_mk F sc_break_lines g0 (spF_len R_break_lines_len) (fun _ _ _ _ _ _ us hl => match us, hl with | [_, _, _], _ => rfl) (fun cdv A outer s H vs Q E hr h => ⟨_,
    (pss_cons (ps_set (i := 3) sc_break_lines.nd rfl (by first | exact Or.inl rfl | exact Or.inr rfl) (DL.pe_cal h_offsets hr (by decide) (by rfl) pass0 (pa_cons (pv 0) (pa_cons (pv 1) pa_nil))))
     (pss_cons (ps_set (i := 4) sc_break_lines.nd rfl (by first | exact Or.inl rfl | exact Or.inr rfl) (pe_lst pa_nil))
     (pss_cons (ps_for PassesOwn.never rfl (DL.kPiL (K := K) (DL.pe_cal h_paragraphs hr (by decide) (by rfl) pass0 (pa_cons (pv 0) pa_nil))) (DL.kTup (K := K) (n := 2) rfl (pgs_cons (pg_name (i := 5) sc_break_lines.nd rfl (by first | exact Or.inl rfl | exact Or.inr rfl)) (pgs_cons (pg_name (i := 6) sc_break_lines.nd rfl (by first | exact Or.inl rfl | exact Or.inr rfl)) pgs_nil)))
     (pss_cons (ps_expr (DL.kBm (K := K) (pe_bm PySem.F.plainAttrs_list PySem.F.slot_list_extend PySem.F.type_list_extend mt_extend (pv 4) (pa_cons (DL.kOrT (K := K) (DL.pe_cal h__break_paragraph hr (by decide) (by rfl) pass0 (pa_cons (DL.pe_cal h_words hr (by decide) (by rfl) pass0 (pa_cons (pv 0) (pa_cons (pv 5) (pa_cons (pv 6) pa_nil)))) (pa_cons (pv 3) (pa_cons (pv 2) pa_nil)))) (pe_one (pe_lst (pa_cons (pe_tup (pa_cons (pv 5) (pa_cons (pv 5) pa_nil))) pa_nil)))) pa_nil))))
     pss_nil))
     (pss_cons (ps_ret (pv 4))
     pss_nil)))), ?_⟩)
  refine run_spF h fun N ds d hR hq => ?_
  obtain ⟨l, s, w, h1, h2, h3, rfl, rfl⟩ := hR
  walk_at "env"
  refine gs_asg (d := .list ((offs s l).map PyData.int)) (EvF.ev (ef_call (ea_cons (ex_var rfl) (ea_cons (ex_var rfl) ea_nil)) (R_offsets_i h1 h2 h3))) ?_
  walk_at "nf"
  refine' gs_asgF (o := .lst []) (ef_lst eas_nil (Nat.zero_le _)) ?_
  walk_at "nf"
  unfold lines at hq
  refine' gs_forD (xs := paras l) (f := dNN) (fun _ => [some (.i (dT l)), some (.i (.int s)), some (.i (.int w)), some (.i (.list ((offs s l).map PyData.int))), some (.r 0), none, none]) (fun pre => [.lst (((pre.flatMap (plines l (sumsOf s l) w)).map dNN).map SV.i)]) (EvF.ev (ef_call (ea_cons (ex_var rfl) ea_nil) (R_paragraphs_i (by omega)))) (fun c' _ ad σ H ok => ok) (fun fr up pre p post hx => ⟨_, _, tg_tup (ds := [.int (p.1 : Int), .int (p.2 : Int)]) (tgs_cons tg_name (tgs_cons tg_name tgs_nil)) rfl, ?a1⟩) (gs_retO (er_var rfl (Nat.lt_succ_self 0)) rfl (fun _ => id) hq)
  case a1 =>
  walk_at "nf"
  obtain ⟨p1, p2, p3, p4, p5, p6⟩ := paras_at hx
  have hfew := plines_few l (sumsOf s l) w pre (p :: post) hx
  have hpl := plines_len l (sumsOf s l) w p
  have hwl := words_len l p.1 p.2
  have hwm : ∀ q ∈ wordsM l p.1 p.2, q.1 ≤ l.length ∧ q.2 ≤ l.length := fun q hq => by
    obtain ⟨pre, post, e⟩ := List.append_of_mem hq
    obtain ⟨a, b⟩ := q
    obtain ⟨_, a2, a3, _⟩ := (words_ok l p.1 p.2).each pre a b post e
    exact ⟨by simp only; omega, by simp only; omega⟩
  rw [show (pre ++ [p]).flatMap (plines l (sumsOf s l) w) = pre.flatMap (plines l (sumsOf s l) w) ++ plines l (sumsOf s l) w p by rw [List.flatMap_append]; simp]
  generalize pre.flatMap (plines l (sumsOf s l) w) = f at *
  obtain ⟨a, b⟩ := p
  simp only at *
  have em : min b l.length = b := by omega
  refine' gs_extF (us := ((plines l (sumsOf s l) w (a, b)).map dNN).map SV.i) (er_var rfl (Nat.lt_succ_self 0)) rfl (EvF.is (ef_orL (us := [.i (dNN (a, a))]) (ef_call (ea_cons (EvX.is (EvF.ev (ef_call (ea_cons (ex_var rfl) (ea_cons (ex_var rfl) (ea_cons (ex_var rfl) ea_nil))) (R_words_i a b (by omega) (by omega) (by omega)))) (by rw [em])) (ea_cons (ex_var rfl) (ea_cons (ex_var rfl) ea_nil))) (R__break_paragraph_i (ps := wordsM l a b) hwm (by omega))) (fun _ => ef_lst (eas_cons (s := .i (dNN (a, a))) ?b1 eas_nil) (Nat.le_of_ble_eq_true rfl))) ?b2) ?b3 ?_
  case b1 => exact (show EvX false _ _ _ _ _ from ex_tup (ea_cons (ex_var rfl) (ea_cons (ex_var rfl) ea_nil)) (Nat.le_of_ble_eq_true rfl))
  case b2 =>
    unfold plines
    by_cases z : brk (sumsOf s l) w (wordsM l a b) = []
    · rw [if_pos z, z]; rfl
    · rw [if_neg z, if_neg (by simpa using z)]
  case b3 => simp; omega
  walk_at "nf"
  refine gs_is (os' := [.lst (((f ++ plines l (sumsOf s l) w (a, b)).map dNN).map SV.i)]) rfl (by simp) ?_
  walk_at "wk"
-- END break_lines
abbrev s_ends_paragraph : Stmt := topS 10
theorem sc_ends_paragraph : FnScope ["string", "line", "rest"] ["string", "line"] (defScope s_ends_paragraph) := ⟨rfl, rfl, rfl, by decide +kernel, rfl, by decide +kernel, by decide +kernel⟩
def endsP (l : List Nat) (b : Nat) : Bool := decide (stripL 32 (upC 10 (l.drop b)) = [])
def R_ends_paragraph : List PyData → PyData → Prop := fun ds d => ∃ (l : List Nat) (a b : Nat), l.length ≤ 40000 ∧ ds = [dT l, dNN (a, b)] ∧ d = .bool (endsP l b)
theorem R_ends_paragraph_i {l : List Nat} {a b : Nat} (h : l.length ≤ 40000) : R_ends_paragraph [dT l, dNN (a, b)] (.bool (endsP l b)) := ⟨l, a, b, h, rfl, rfl⟩
local macro_rules | `(tactic| walk_at "r2") => `(tactic| exact R_ends_paragraph_i (by assumption))
theorem R_ends_paragraph_len : ∀ ds d, R_ends_paragraph ds d → ds.length = 2 := by
  intro ds d hh
  unfold R_ends_paragraph at hh
  repeat (obtain ⟨_, hh⟩ := hh)
  subst_eqs
  rfl
theorem ok_ends_paragraph {P : Program} {w : World} {K : PySem.W.Frag} {mg : Str → Option Value} {base : Heap} {f : Addr} {fd : FuncData} (F : FnP K "ends_paragraph" s_ends_paragraph f fd) (g0 : mg "ends_paragraph" = some (.ref f)) : Cal P w K mg base 1 "ends_paragraph" ["string", "line"] (spD K  R_ends_paragraph) := by
  refine cal_mk F sc_ends_paragraph g0 (spD_len R_ends_paragraph_len) (fun _ _ _ _ _ _ us hl => match us, hl with | [_, _], _ => rfl) (fun cdv A outer s H vs Q E hr h => ⟨_,
    (pss_cons (ps_set (i := 2) sc_ends_paragraph.nd rfl (by first | exact Or.inl rfl | exact Or.inr rfl) (pe_ix (DL.kIxT (K := K)) (pe_m1 PySem.F.slot_str_partition PySem.F.type_str_partition mt_partition (pe_slice sl_str (pv 0) (po_some (pe_ix (DL.kIxT (K := K)) (pv 1) pe_int (fun _ _ => rfl))) po_none) pe_str) pe_int (fun _ _ => rfl)))
     (pss_cons (ps_ret (pe_cmpR op_eq (pe_m1 PySem.F.slot_str_strip PySem.F.type_str_strip mt_stripChars (pv 2) pe_str) pe_str (nomark _)))
     pss_nil)), ?_⟩)
  refine run_spD h fun N ds d hR hq => ?_
  obtain ⟨l, a, b, h, rfl, rfl⟩ := hR
  walk_at "env"
  refine gs_asg (d := dT (upC 10 (l.drop b))) (ex_part0 (l := l.drop b) rfl (EvX.is (ex_slS (ex_var rfl) (eo_some (i := (b : Int)) (ex_ixT (ds := [.int (a : Int), .int (b : Int)]) (ex_var rfl) ex_int (atI_nat rfl))) eo_none (by omega)) (congrArg dT (cutG_from _ _))) (ex_txt (l := [10]) (by decide +kernel)) (by rw [List.length_drop]; omega)) ?_
  walk_at "nf"
  have hu := upC_le 10 (l.drop b)
  rw [List.length_drop] at hu
  exact gs_ret (EvX.is (ex_eqT (ex_strip rfl (ex_var rfl) (ex_txt (l := [32]) (by decide +kernel)) (by omega)) (ex_txt (l := []) (by decide +kernel))) rfl) hq
-- END ends_paragraph
abbrev s__widen_spaces : Stmt := topS 13
theorem sc__widen_spaces : FnScope ["part", "places", "rest", "many", "share", "left_over", "found", "moved", "passed", "index", "char"] ["part", "places", "rest"] (defScope s__widen_spaces) := ⟨rfl, rfl, rfl, by decide +kernel, rfl, by decide +kernel, by decide +kernel⟩
def mvOf (sh lo : Int) (j : Nat) : Int := (j : Int) * sh + min (j : Int) lo
theorem mvOf_zero (sh lo : Int) (h : 0 ≤ lo) : mvOf sh lo 0 = 0 := by unfold mvOf; simp; omega
theorem mvOf_succ (sh lo : Int) (j : Nat) : mvOf sh lo (j + 1) = mvOf sh lo j + (sh + if (j : Int) < lo then 1 else 0) := by
  unfold mvOf
  push_cast
  rw [Int.add_mul, Int.one_mul]
  split <;> omega
theorem mvOf_nul (j : Nat) : mvOf 0 0 j = 0 := by unfold mvOf; simp; omega
def fullP (s : Int) (p : List Nat) (sh lo : Int) (n : Nat) : List Int := (List.range n).map fun k => wid s (p.take k) + mvOf sh lo ((p.take k).count 32)
theorem fullP_len (s : Int) (p : List Nat) (sh lo : Int) (n : Nat) : (fullP s p sh lo n).length = n := by unfold fullP; rw [List.length_map, List.length_range]
theorem fullP_at (s : Int) (p : List Nat) (sh lo : Int) (n k : Nat) (h : k < n) : (fullP s p sh lo n)[k]? = some (wid s (p.take k) + mvOf sh lo ((p.take k).count 32)) := by
  unfold fullP
  rw [List.getElem?_map, List.getElem?_range h]
  rfl
theorem fullP_succ (s : Int) (p : List Nat) (sh lo : Int) (n : Nat) : fullP s p sh lo (n + 1) = fullP s p sh lo n ++ [wid s (p.take n) + mvOf sh lo ((p.take n).count 32)] := by
  unfold fullP
  rw [List.range_succ, List.map_append]
  rfl
theorem fullP_nul (s : Int) (p : List Nat) : fullP s p 0 0 (p.length + 1) = offs s p := by
  unfold fullP offs
  refine List.map_congr_left fun k _ => ?_
  rw [mvOf_nul, Int.add_zero]
def shOf (p : List Nat) (r : Int) : Int := if p.count 32 = 0 then 0 else r / (p.count 32 : Int)
def loOf (p : List Nat) (r : Int) : Int := if p.count 32 = 0 then 0 else r % (p.count 32 : Int)
def R__widen_spaces : List PyData → PyData → Prop := fun ds d => ∃ (p : List Nat) (s r : Int), 0 ≤ r ∧ r ≤ 1000000000000000 ∧ p.length ≤ 40000 ∧ ds = [dT p, .list ((offs s p).map PyData.int), .int r] ∧ d = .list ((fullP s p (shOf p r) (loOf p r) (p.length + 1)).map PyData.int)
theorem R__widen_spaces_i {p : List Nat} {s r : Int} (h0 : 0 ≤ r) (h1 : r ≤ 1000000000000000) (h2 : p.length ≤ 40000) : R__widen_spaces [dT p, .list ((offs s p).map PyData.int), .int r] (.list ((fullP s p (shOf p r) (loOf p r) (p.length + 1)).map PyData.int)) := ⟨p, s, r, h0, h1, h2, rfl, rfl⟩
local macro_rules | `(tactic| walk_at "r2") => `(tactic| exact R__widen_spaces_i (by assumption) (by assumption) (by assumption))
theorem R__widen_spaces_len : ∀ ds d, R__widen_spaces ds d → ds.length = 3 := by
  intro ds d hh
  unfold R__widen_spaces at hh
  repeat (obtain ⟨_, hh⟩ := hh)
  subst_eqs
  rfl
theorem ok__widen_spaces {P : Program} {w : World} {K : PySem.W.Frag} {mg : Str → Option Value} {base : Heap} {f : Addr} {fd : FuncData} (F : FnP K "_widen_spaces" s__widen_spaces f fd) (g0 : mg "_widen_spaces" = some (.ref f)) (z_divmod : mg "divmod" = none) (z_enumerate : mg "enumerate" = none) : Cal P w K mg base 1 "_widen_spaces" ["part", "places", "rest"] (spD K  R__widen_spaces) := by
  refine cal_mk F sc__widen_spaces g0 (spD_len R__widen_spaces_len) (fun _ _ _ _ _ _ us hl => match us, hl with | [_, _, _], _ => rfl) (fun cdv A outer s H vs Q E hr h => ⟨_,
    (pss_cons (ps_set (i := 3) sc__widen_spaces.nd rfl (by first | exact Or.inl rfl | exact Or.inr rfl) (pe_m1 PySem.F.slot_str_count PySem.F.type_str_count mt_count (pv 0) pe_str))
     (pss_cons (ps_if (pt_cmpR op_eq (pv 3) pe_int (nomark _))
     (pss_cons (ps_ret (pv 1))
     pss_nil)
     pss_nil)
     (pss_cons (ps_asg (pe_callB call_divmod (by rfl) z_divmod (by decide +kernel) (pa_cons (pv 2) (pa_cons (pv 3) pa_nil))) (DL.kTup (K := K) (n := 2) rfl (pgs_cons (pg_name (i := 4) sc__widen_spaces.nd rfl (by first | exact Or.inl rfl | exact Or.inr rfl)) (pgs_cons (pg_name (i := 5) sc__widen_spaces.nd rfl (by first | exact Or.inl rfl | exact Or.inr rfl)) pgs_nil))))
     (pss_cons (ps_set (i := 6) sc__widen_spaces.nd rfl (by first | exact Or.inl rfl | exact Or.inr rfl) (pe_lst (pa_cons (pe_ix (DL.kIxL (K := K)) (pv 1) pe_int (fun _ _ => rfl)) pa_nil)))
     (pss_cons (ps_set (i := 7) sc__widen_spaces.nd rfl (by first | exact Or.inl rfl | exact Or.inr rfl) pe_int)
     (pss_cons (ps_set (i := 8) sc__widen_spaces.nd rfl (by first | exact Or.inl rfl | exact Or.inr rfl) pe_int)
     (pss_cons (ps_for PassesOwn.never rfl (pi_enumS (by rfl) z_enumerate (pa_cons (pv 0) pa_nil)) (DL.kTup (K := K) (n := 2) rfl (pgs_cons (pg_name (i := 9) sc__widen_spaces.nd rfl (by first | exact Or.inl rfl | exact Or.inr rfl)) (pgs_cons (pg_name (i := 10) sc__widen_spaces.nd rfl (by first | exact Or.inl rfl | exact Or.inr rfl)) pgs_nil)))
     (pss_cons (ps_if (pt_cmpR op_eq (pv 10) pe_str (nomark _))
     (pss_cons (ps_aug (i := 7) sc__widen_spaces.nd rfl (by first | exact Or.inl rfl | exact Or.inr rfl) (pe_op op_add (pv 4) (pe_ifExp (pt_cmpR op_lt (pv 8) (pv 5) (nomark _)) pe_int pe_int)) ip_add)
     (pss_cons (ps_aug (i := 8) sc__widen_spaces.nd rfl (by first | exact Or.inl rfl | exact Or.inr rfl) pe_int ip_add)
     pss_nil))
     pss_nil)
     (pss_cons (ps_expr (DL.kBm (K := K) (pe_bm PySem.F.plainAttrs_list PySem.F.slot_list_append PySem.F.type_list_append mt_append (pv 6) (pa_cons (pe_op op_add (pe_ix (DL.kIxL (K := K)) (pv 1) (pe_op op_add (pv 9) pe_int) (fun _ _ => rfl)) (pv 7)) pa_nil))))
     pss_nil)))
     (pss_cons (ps_ret (pv 6))
     pss_nil)))))))), ?_⟩)
  refine run_spD h fun N ds d hR hq => ?_
  obtain ⟨p, s, r, h0, h1, h2, rfl, rfl⟩ := hR
  walk_at "env"
  have el := offs_len s p
  refine gs_asg (d := .int (p.count 32 : Int)) (ex_countS rfl (ex_var rfl) (ex_txt (l := [32]) (by decide +kernel))) ?_
  walk_at "nf"
  by_cases hc : p.count 32 = 0
  · refine gs_if (b := true) (EvT.is (et_test (ex_eqI (ex_var rfl) ex_int)) (by simp [hc])) (fun _ => ?_) (fun z => nomatch z)
    refine gs_ret (EvX.is (ex_var rfl) ?_) hq
    unfold shOf loOf
    rw [if_pos hc, if_pos hc, fullP_nul]
  · refine gs_if (b := false) (EvT.is (et_test (ex_eqI (ex_var rfl) ex_int)) (by simp; omega)) (fun z => nomatch z) fun _ => ?_
    refine g_nextU ?_
    have esh : shOf p r = r / (p.count 32 : Int) := by unfold shOf; rw [if_neg hc]
    have elo : loOf p r = r % (p.count 32 : Int) := by unfold loOf; rw [if_neg hc]
    have hlo0 : 0 ≤ loOf p r := by rw [elo]; exact Int.emod_nonneg _ (by omega)
    have hlo1 : loOf p r < (p.count 32 : Int) := by rw [elo]; exact Int.emod_lt_of_pos _ (by omega)
    have hsh0 : 0 ≤ shOf p r := by rw [esh]; exact Int.ediv_nonneg h0 (by omega)
    have hcl : p.count 32 ≤ p.length := List.count_le_length
    refine gs_asgT (d := .tuple [.int (shOf p r), .int (loOf p r)]) (EvX.is (ex_divmod rfl (ex_var rfl) (ex_var rfl) ?c1) (by rw [esh, elo])) (tg_tup (tgs_cons tg_name (tgs_cons tg_name tgs_nil)) rfl) ?_
    case c1 => simp only [CDiv]; omega
    walk_at "nf"
    generalize shOf p r = sh at *
    generalize loOf p r = lo at *
    have g0 : (offs s p)[0]? = some (wid s (p.take 0)) := offs_at s p 0 (Nat.zero_le _)
    refine' gs_asgF (o := .lst (((fullP s p sh lo 1).map PyData.int).map SV.i)) (EvF.is (ef_lst (EvA.ss (ds := [.int (wid s (p.take 0))]) (ea_cons (ex_ixLD (ex_var rfl) ex_int (atI_nat (j := 0) (by rw [List.getElem?_map, g0]; rfl))) ea_nil)) (Nat.le_of_ble_eq_true rfl)) ?b1) ?_
    case b1 => unfold fullP; simp [wid, mvOf]; omega
    walk_at "nf"
    refine gs_asg (d := .int (mvOf sh lo ((p.take 0).count 32))) (EvX.is ex_int (by simp [mvOf]; omega)) ?_
    walk_at "nf"
    refine gs_asg (d := .int (((p.take 0).count 32 : Nat) : Int)) (EvX.is ex_int (by simp)) ?_
    walk_at "nf"
    refine' gs_for (n := p.length) (fun i => [some (.i (dT p)), some (.i (.list ((offs s p).map PyData.int))), some (.i (.int r)), some (.i (.int (p.count 32 : Int))), some (.i (.int sh)), some (.i (.int lo)), some (.r 0), some (.i (.int (mvOf sh lo ((p.take i).count 32)))), some (.i (.int (((p.take i).count 32 : Nat) : Int))), none, none]) (fun i => [.lst (((fullP s p sh lo (i + 1)).map PyData.int).map SV.i)]) (ew_enumS (ex_var rfl)) (fun c' _ ad σ H ok => ok) (fun _ _ => True.intro) (fun fr up i hi => ⟨_, _, tg_tup (tgs_cons tg_name (tgs_cons tg_name tgs_nil)) rfl, ?d1⟩) (gs_ret (EvR.data (ds := (fullP s p sh lo (p.length + 1)).map PyData.int) (er_var rfl (Nat.lt_succ_self 0)) rfl) hq)
    case d1 =>
      walk_at "nf"
      obtain ⟨x, hx⟩ : ∃ x, p[i]? = some x := ⟨p[i], List.getElem?_eq_getElem hi⟩
      have hgd : p.getD i 0 = x := by rw [List.getD_eq_getElem?_getD, hx]; rfl
      rw [hgd]
      have htk := take_snoc p i x hx
      have hg := offs_at s p (i + 1) (by omega)
      have hci : (p.take i).count 32 ≤ 40000 := Nat.le_trans List.count_le_length (by rw [List.length_take]; omega)
      have fin : ∀ (c : Cn) (e0 e9 e10 : Option SV) (D : Ends), (∀ ad σ H, Ok c ad [some (.i (dT p)), some (.i (.list ((offs s p).map PyData.int))), some (.i (.int r)), some (.i (.int (p.count 32 : Int))), some (.i (.int sh)), some (.i (.int lo)), some (.r 0), some (.i (.int (mvOf sh lo ((p.take (i + 1)).count 32)))), some (.i (.int (((p.take (i + 1)).count 32 : Nat) : Int))), some (.i (.int (i : Int))), e10] [.lst (((fullP s p sh lo (i + 1 + 1)).map PyData.int).map SV.i)] σ H → D.nx σ H) → Go c [some (.i (dT p)), some (.i (.list ((offs s p).map PyData.int))), some (.i (.int r)), some (.i (.int (p.count 32 : Int))), some (.i (.int sh)), some (.i (.int lo)), some (.r 0), some (.i (.int (mvOf sh lo ((p.take (i + 1)).count 32)))), some (.i (.int (((p.take (i + 1)).count 32 : Nat) : Int))), some (.i (.int (i : Int))), e10] [.lst (((fullP s p sh lo (i + 1)).map PyData.int).map SV.i)] (tSeq (tDrop (tBM c.K "list" rAppend (tVar 6) (tCons (tOp (rI0 fun i j => .int (i + j)) (tOp (rIxL c.K) (tVar 1) (tOp (rI0 fun i j => .int (i + j)) (tVar 9) (tC (.int 1)))) (tVar 7)) tNil))) tNext) D := fun c e0 e9 e10 D hD => by
        refine' gs_app (er_var rfl (Nat.lt_succ_self 0)) rfl (s := .i (.int (wid s (p.take (i + 1)) + mvOf sh lo ((p.take (i + 1)).count 32)))) ?f1 (by simp [fullP_len]; omega) ?_
        case f1 => exact (show EvX false _ _ _ _ _ from ex_i2 (ex_ixLD (ex_var rfl) (EvX.is (ex_i2 (ex_var rfl) ex_int) (show PyData.int ((i : Int) + 1) = .int ((i + 1 : Nat) : Int) by simp)) (atI_nat (by rw [List.getElem?_map, hg]; rfl))) (ex_var rfl))
        walk_at "nf"
        refine gs_is (os' := [.lst (((fullP s p sh lo (i + 1 + 1)).map PyData.int).map SV.i)]) rfl (by rw [fullP_succ s p sh lo (i + 1)]; simp) ?_
        exact g_next hD
      refine gs_if (b := decide (x = 32)) (EvT.is (et_test (ex_eqT (ex_var rfl) (ex_txt (l := [32]) (by decide +kernel)))) (by simp)) (fun hb => ?g1) (fun hb => ?g2)
      case g1 =>
        have hb : x = 32 := by simpa using hb
        have hcn : (p.take (i + 1)).count 32 = (p.take i).count 32 + 1 := by rw [htk, List.count_append, hb]; rfl
        refine gs_aug (a := mvOf sh lo ((p.take i).count 32)) (b := sh + if (((p.take i).count 32 : Nat) : Int) < lo then 1 else 0) rfl (ex_i2 (ex_var rfl) (ex_if (b := decide ((((p.take i).count 32 : Nat) : Int) < lo)) (EvT.is (et_test (ex_b2 (ex_var rfl) (ex_var rfl))) rfl) (fun h => EvX.is ex_int (by rw [if_pos (by simpa using h)])) (fun h => EvX.is ex_int (by rw [if_neg (by simpa using h)])))) ?_
        walk_at "nf"
        refine gs_aug (a := (((p.take i).count 32 : Nat) : Int)) (b := 1) rfl ex_int ?_
        walk_at "nf"
        refine g_nextU (gs_is (env' := [some (.i (dT p)), some (.i (.list ((offs s p).map PyData.int))), some (.i (.int r)), some (.i (.int (p.count 32 : Int))), some (.i (.int sh)), some (.i (.int lo)), some (.r 0), some (.i (.int (mvOf sh lo ((p.take (i + 1)).count 32)))), some (.i (.int (((p.take (i + 1)).count 32 : Nat) : Int))), some (.i (.int (i : Int))), some (.i (dT [x]))]) ?h1 rfl ?_)
        case h1 => rw [hcn, mvOf_succ]; simp
        refine fin _ none none _ _ fun ad σ H ok => (show OkE _ _ _ _ _ from ⟨ad, ok.weak (by simp [WkE]) (by simp [WkO]) (by simp [EnLt, SvLt]) (by walk_at "osl") (by simp)⟩)
      case g2 =>
        have hb : ¬ x = 32 := by simpa using hb
        have hcn : (p.take (i + 1)).count 32 = (p.take i).count 32 := by rw [htk, List.count_append, List.count_cons_of_ne hb]; rfl
        refine g_nextU (gs_is (env' := [some (.i (dT p)), some (.i (.list ((offs s p).map PyData.int))), some (.i (.int r)), some (.i (.int (p.count 32 : Int))), some (.i (.int sh)), some (.i (.int lo)), some (.r 0), some (.i (.int (mvOf sh lo ((p.take (i + 1)).count 32)))), some (.i (.int (((p.take (i + 1)).count 32 : Nat) : Int))), some (.i (.int (i : Int))), some (.i (dT [x]))]) ?h1 rfl ?_)
        case h1 => rw [hcn]
        refine fin _ none none _ _ fun ad σ H ok => (show OkE _ _ _ _ _ from ⟨ad, ok.weak (by simp [WkE]) (by simp [WkO]) (by simp [EnLt, SvLt]) (by walk_at "osl") (by simp)⟩)
-- END _widen_spaces
abbrev s_place_line : Stmt := topS 11
theorem sc_place_line : FnScope ["string", "line", "size", "width", "align", "part", "places", "rest", "moves", "place"] ["string", "line", "size", "width", "align"] (defScope s_place_line) := ⟨rfl, rfl, rfl, by decide +kernel, rfl, by decide +kernel, by decide +kernel⟩
def LEFT : List Nat := [108, 101, 102, 116]
def RIGHT : List Nat := [114, 105, 103, 104, 116]
def CENTER : List Nat := [99, 101, 110, 116, 101, 114]
def FULL : List Nat := [102, 117, 108, 108]
theorem tx_left : Str.ofString "left" = sT LEFT := by decide +kernel
theorem tx_right : Str.ofString "right" = sT RIGHT := by decide +kernel
theorem tx_center : Str.ofString "center" = sT CENTER := by decide +kernel
theorem tx_full : Str.ofString "full" = sT FULL := by decide +kernel
def restOf (s w : Int) (p : List Nat) : Int := max 0 (w - wid s p)
def fullM (s w : Int) (l : List Nat) (a b : Nat) : List Int := if endsP l b = true then fullP s ((l.drop a).take (b - a)) 0 0 (((l.drop a).take (b - a)).length + 1) else fullP s ((l.drop a).take (b - a)) (shOf ((l.drop a).take (b - a)) (restOf s w ((l.drop a).take (b - a)))) (loOf ((l.drop a).take (b - a)) (restOf s w ((l.drop a).take (b - a)))) (((l.drop a).take (b - a)).length + 1)
def moveOf (al : List Nat) (r : Int) : Int := if al = LEFT then 0 else if al = CENTER then r / 2 else r
def placesM (s w : Int) (al p : List Nat) : List Int := (offs s p).map (· + moveOf al (restOf s w p))
def plM (s w : Int) (al l : List Nat) (a b : Nat) : List Int := if al = FULL then fullM s w l a b else placesM s w al ((l.drop a).take (b - a))
def R_place_line : List PyData → PyData → Prop := fun ds d => ∃ (l : List Nat) (a b : Nat) (s w : Int) (al : List Nat), 1 ≤ s ∧ s ≤ 1000000 ∧ w ≤ 1000000000000 ∧ l.length ≤ 30000 ∧ b ≤ l.length ∧ (al = FULL ∨ al = LEFT ∨ al = CENTER ∨ al = RIGHT) ∧ ds = [dT l, dNN (a, b), .int s, .int w, dT al] ∧ d = .list ((plM s w al l a b).map PyData.int)
theorem R_place_line_i {l : List Nat} {a b : Nat} {s w : Int} {al : List Nat} (h1 : 1 ≤ s) (h2 : s ≤ 1000000) (h5 : w ≤ 1000000000000) (h3 : l.length ≤ 30000) (h4 : b ≤ l.length) (h6 : al = FULL ∨ al = LEFT ∨ al = CENTER ∨ al = RIGHT) : R_place_line [dT l, dNN (a, b), .int s, .int w, dT al] (.list ((plM s w al l a b).map PyData.int)) := ⟨l, a, b, s, w, al, h1, h2, h5, h3, h4, h6, rfl, rfl⟩
local macro_rules | `(tactic| walk_at "r2") => `(tactic| exact R_place_line_i (by assumption) (by assumption) (by assumption) (by assumption) (by assumption) (by assumption))
theorem R_place_line_len : ∀ ds d, R_place_line ds d → ds.length = 5 := by
  intro ds d hh
  unfold R_place_line at hh
  repeat (obtain ⟨_, hh⟩ := hh)
  subst_eqs
  rfl
theorem ok_place_line {P : Program} {w : World} {K : PySem.W.Frag} {mg : Str → Option Value} {base : Heap} {f : Addr} {fd : FuncData} (F : DL.FnQ K "place_line" s_place_line [("align", .str "left")] f fd) (g0 : mg "place_line" = some (.ref f)) (h_offsets : Cal P w K mg base 2 "offsets" ["string", "size"] (spF K  R_offsets)) (h_ends_paragraph : Cal P w K mg base 1 "ends_paragraph" ["string", "line"] (spD K  R_ends_paragraph)) (h__widen_spaces : Cal P w K mg base 1 "_widen_spaces" ["part", "places", "rest"] (spD K  R__widen_spaces)) (z_max : mg "max" = none) : DL.CalQ P w K mg base 3 "place_line" ["string", "line", "size", "width", "align"] (spD K  R_place_line) [(2, ["size", "width", "align"], [])] := by
  refine DL.cal_mkQ F sc_place_line g0 (spD_len R_place_line_len) (fun Fz hF => (List.mem_cons.mp hF).elim (fun e => e ▸ (form_mk F 2 ["size", "width", "align"] [] (by simp) (by simp) (fun D doc pm an cdv ct us mv ws h1 h2 h3 => match us, mv, ws, h1, h2, h3 with | [_, _], [], [_, _, _], _, _, _ => rfl))) (fun hF => (fun _ hF => absurd hF (List.not_mem_nil)) Fz hF)) (fun cdv A outer s H vs Q E hr h => ⟨_,
    (pss_cons (ps_set (i := 5) sc_place_line.nd rfl (by first | exact Or.inl rfl | exact Or.inr rfl) (pe_slice sl_str (pv 0) (po_some (pe_ix (DL.kIxT (K := K)) (pv 1) pe_int (fun _ _ => rfl))) (po_some (pe_ix (DL.kIxT (K := K)) (pv 1) pe_int (fun _ _ => rfl)))))
     (pss_cons (ps_set (i := 6) sc_place_line.nd rfl (by first | exact Or.inl rfl | exact Or.inr rfl) (DL.pe_cal h_offsets hr (by decide) (by rfl) pass0 (pa_cons (pv 5) (pa_cons (pv 2) pa_nil))))
     (pss_cons (ps_set (i := 7) sc_place_line.nd rfl (by first | exact Or.inl rfl | exact Or.inr rfl) (pe_callB (call_max2 rfl) (by rfl) z_max (by decide +kernel) (pa_cons pe_int (pa_cons (pe_op op_sub (pv 3) (pe_ix (DL.kIxL (K := K)) (pv 6) (pe_un un_neg pe_int) (fun _ _ => rfl))) pa_nil))))
     (pss_cons (ps_if (pt_cmpR op_eq (pv 4) pe_str (nomark _))
     (pss_cons (ps_if (pt_val (DL.pe_cal h_ends_paragraph hr (by decide) (by rfl) pass0 (pa_cons (pv 0) (pa_cons (pv 1) pa_nil))))
     (pss_cons (ps_ret (pv 6))
     pss_nil)
     pss_nil)
     (pss_cons (ps_ret (DL.pe_cal h__widen_spaces hr (by decide) (by rfl) pass0 (pa_cons (pv 5) (pa_cons (pv 6) (pa_cons (pv 7) pa_nil)))))
     pss_nil))
     pss_nil)
     (pss_cons (ps_set (i := 8) sc_place_line.nd rfl (by first | exact Or.inl rfl | exact Or.inr rfl) (pe_disp (pps_cons pe_str pe_int (pps_cons pe_str (pe_op op_fdiv (pv 7) pe_int) (pps_cons pe_str (pv 7) pps_nil))) (by rfl) (by rfl) (by simp) (by decide)))
     (pss_cons (ps_ret (pe_lc (own := [("place", 9)]) (by rfl) sc_place_line.nd (DL.kPiL (K := K) (pv 6)) (blkOk_by (own := [("place", 9)]) (N := ["string", "line", "size", "width", "align", "part", "places", "rest", "moves", "place"]) (sc := defScope s_place_line) (by decide +kernel)) (fun _ _ _ _ _ => (pg_name (i := 9) sc_place_line.nd rfl (by first | exact Or.inl rfl | exact Or.inr rfl))) (fun _ _ _ _ _ => pts_nil) (fun _ _ _ _ _ => (pe_op op_add (pv 9) (pe_dget (DL.u1 hr.units) (pv 8) (pv 4) (fun _ _ => rfl))))))
     pss_nil)))))), ?_⟩)
  refine run_spD h fun N ds d hR hq => ?_
  obtain ⟨l, a, b, s, w, al, h1, h2, h5, h3, h4, h6, rfl, rfl⟩ := hR
  walk_at "env"
  refine gs_asg (d := dT ((l.drop a).take (b - a))) (EvX.is (ex_slS (ex_var rfl) (eo_some (i := (a : Int)) (ex_ixT (ds := [.int (a : Int), .int (b : Int)]) (ex_var rfl) ex_int (atI_nat rfl))) (eo_some (i := (b : Int)) (ex_ixT (ds := [.int (a : Int), .int (b : Int)]) (ex_var rfl) ex_int (atI_nat rfl))) (by omega)) (congrArg dT (cutG_mid _ _ _ h4))) ?_
  walk_at "nf"
  have hpl : ((l.drop a).take (b - a)).length ≤ 30000 := by rw [List.length_take, List.length_drop]; omega
  unfold plM fullM placesM at hq
  generalize (l.drop a).take (b - a) = p at *
  refine gs_asg (d := .list ((offs s p).map PyData.int)) (EvF.ev (ef_call (ea_cons (ex_var rfl) (ea_cons (ex_var rfl) ea_nil)) (R_offsets_i h1 h2 (by omega)))) ?_
  walk_at "nf"
  have el := offs_len s p
  refine' gs_asg (d := .int (restOf s w p)) (EvX.is (ex_max2 rfl ex_int (ex_i2 (ex_var rfl) (ex_ixLD (i := -1) (ex_var rfl) (ex_u ex_int) ?a1))) ?a2) ?_
  case a1 =>
    have hl := offs_last s p
    have h0 : ¬ (0 : Int) ≤ -1 := by decide
    unfold atI ixN
    rw [if_neg h0, if_pos (by simp [offs_len]; omega)]
    have e : ((-1 : Int) + (((offs s p).map PyData.int).length : Nat)).toNat = p.length := by simp [offs_len]; omega
    rw [e]
    show ((offs s p).map PyData.int)[p.length]? = some (PyData.int (wid s p))
    rw [List.getElem?_map, hl]
    rfl
  case a2 => unfold restOf; congr 1
  walk_at "nf"
  have hr0 : 0 ≤ restOf s w p := by unfold restOf; omega
  have hr1 : restOf s w p ≤ 1000000000000000 := by
    have := (wid_nn s (by omega) p).1
    unfold restOf; omega
  generalize restOf s w p = r at *
  by_cases hf : al = FULL
  · subst hf
    rw [if_pos rfl] at hq
    refine gs_if (b := true) (EvT.is (et_test (ex_eqT (ex_var rfl) (ex_txt tx_full))) (by decide)) (fun _ => ?_) (fun z => nomatch z)
    refine gs_if (b := endsP l b) (et_B (ex_call (ea_cons (ex_var rfl) (ea_cons (ex_var rfl) ea_nil)) (R_ends_paragraph_i (by omega)))) (fun hb => ?b1) (fun hb => ?b2)
    case b1 =>
      rw [if_pos hb, fullP_nul] at hq
      exact gs_ret (ex_var rfl) hq
    case b2 =>
      rw [if_neg (by rw [hb]; decide)] at hq
      refine g_nextU ?_
      exact gs_ret (ex_call (ea_cons (ex_var rfl) (ea_cons (ex_var rfl) (ea_cons (ex_var rfl) ea_nil))) (R__widen_spaces_i hr0 hr1 (by omega))) hq
  rw [if_neg hf] at hq
  refine gs_if (b := false) (EvT.is (et_test (ex_eqT (ex_var rfl) (ex_txt tx_full))) (by rcases h6 with z | z | z | z; exact absurd z hf; all_goals (rw [z]; decide))) (fun z => nomatch z) fun _ => ?_
  refine g_nextU ?_
  refine' gs_asgF (o := .dK [(.inr (sT LEFT), .i (.int 0)), (.inr (sT CENTER), .i (.int (r / 2))), (.inr (sT RIGHT), .i (.int r))]) (ef_disp (kvs := [(.inr (sT LEFT), .int 0), (.inr (sT CENTER), .int (r / 2)), (.inr (sT RIGHT), .int r)]) (ep_cons (ex_txt tx_left) ex_int rfl (ep_cons (ex_txt tx_center) ?b1 rfl (ep_cons (ex_txt tx_right) (ex_var rfl) rfl ep_nil))) (by show ([.inr (sT LEFT), .inr (sT CENTER), .inr (sT RIGHT)] : List Key).Nodup; decide) (Nat.le_of_ble_eq_true rfl)) ?_
  case b1 => walk_at "v"
  walk_at "nf"
  have hg : ∀ x : SV, getA [((.inr (sT LEFT) : Key), SV.i (.int 0)), (.inr (sT CENTER), .i (.int (r / 2))), (.inr (sT RIGHT), .i (.int r))] (.inr (sT al)) = some (.i (.int (moveOf al r))) := fun _ => by
    rcases h6 with z | z | z | z
    · exact absurd z hf
    all_goals (rw [z]; rfl)
  refine' gs_ret (EvF.ev (ds := ((offs s p).map (· + moveOf al r)).map PyData.int) (EvF.is (ef_lc (xs := offs s p) (e := fun x => .i (.int x)) (fun _ => true) (fun x => .int (x + moveOf al r)) (ew_list (ex_var rfl)) (by simp) itD_map (fun _ => True.intro) (by omega) (fun fr lo up acc x hx => ⟨_, _, ?c1, tg_name, et_yes, fun _ => ?c2⟩)) ?c3)) hq
  case c1 => walk_at "js"
  case c2 =>
    walk_at "we"
    exact ex_i2 (ex_var rfl) (ex_dget (er_var rfl (by simp)) rfl (ex_var rfl) (hg (.i .none)))
  case c3 => simp [filt_all, List.map_map, Function.comp_def]
-- END place_line
abbrev s_Setting___init__ : Stmt := inClass (topS 15) 0
theorem sc_Setting___init__ : FnScope ["self", "string", "size", "lead", "width", "align"] ["self", "string", "size", "lead", "width", "align"] (defScope s_Setting___init__) := ⟨rfl, rfl, rfl, by decide +kernel, rfl, by decide +kernel, by decide +kernel⟩
/-- what a setting holds -/
def setM (l : List Nat) (s ld w : Int) (al : List Nat) : List (Str × PyData) := [("string", dT l), ("size", .int s), ("lead", .int ld), ("width", .int w), ("align", dT al), ("lines", .list ((lines l s w).map dNN))]
/-- the numbers of a setting are in their ranges -/
def SetOk (l : List Nat) (s ld w : Int) (al : List Nat) : Prop := 1 ≤ s ∧ s ≤ 1000000 ∧ (0 ≤ ld ∧ ld ≤ 1000000) ∧ w ≤ 1000000000000 ∧ l.length ≤ 30000 ∧ (al = FULL ∨ al = LEFT ∨ al = CENTER ∨ al = RIGHT)
def R_Setting___init__ : List PyData → List (Str × PyData) → Prop := fun ds m => ∃ (l : List Nat) (s ld w : Int) (al : List Nat), 1 ≤ s ∧ s ≤ 1000000 ∧ l.length ≤ 30000 ∧ ds = [dT l, .int s, .int ld, .int w, dT al] ∧ m = setM l s ld w al
theorem R_Setting___init___i {l : List Nat} {s ld w : Int} {al : List Nat} (h1 : 1 ≤ s) (h2 : s ≤ 1000000) (h3 : l.length ≤ 30000) : R_Setting___init__ [dT l, .int s, .int ld, .int w, dT al] (setM l s ld w al) := ⟨l, s, ld, w, al, h1, h2, h3, rfl, rfl⟩
local macro_rules | `(tactic| walk_at "r2") => `(tactic| exact R_Setting___init___i (by assumption) (by assumption) (by assumption))
theorem R_Setting___init___len : ∀ ds m, R_Setting___init__ ds m → ds.length = 5 := by
  intro ds m hh
  unfold R_Setting___init__ at hh
  repeat (obtain ⟨_, hh⟩ := hh)
  subst_eqs
  rfl
theorem ok_Setting___init__ {P : Program} {w : World} {K : PySem.W.Frag} {mg : Str → Option Value} {base : Heap} {f : Addr} {fd : FuncData} (F : DL.FnM K "__init__" "Setting.__init__" s_Setting___init__ [("size", .int 2), ("lead", .int 0), ("align", .str "left")] f fd) {C_Setting : Addr} (kC_Setting : Cls K C_Setting) (n_Setting_string : NoAttr K C_Setting "string") (n_Setting_size : NoAttr K C_Setting "size") (n_Setting_lead : NoAttr K C_Setting "lead") (n_Setting_width : NoAttr K C_Setting "width") (n_Setting_align : NoAttr K C_Setting "align") (n_Setting_lines : NoAttr K C_Setting "lines") (n_Setting___len__ : NoAttr K C_Setting "__len__") (n_Setting___length_hint__ : NoAttr K C_Setting "__length_hint__") (h_break_lines : Cal P w K mg base 3 "break_lines" ["string", "size", "width"] (spF K  R_break_lines)) (M : Mk K C_Setting f) (g0 : mg "Setting" = some (.ref C_Setting)) : DL.MakP2 P w K mg base 4 "Setting" C_Setting ["self", "string", "size", "lead", "width", "align"] (DL.spO K C_Setting R_Setting___init__) [(2, ["size", "lead", "width", "align"], [], [])] := by
  refine DL.mak_mk2 F sc_Setting___init__ M g0 (DL.spO_len R_Setting___init___len) (fun Fz hF => (List.mem_cons.mp hF).elim (fun e => e ▸ (DL.form_mk2 F 2 ["size", "lead", "width", "align"] [] [] (by simp) (by simp) (by simp) (fun D doc pm an cdv ct us va vb ws h1 h2 h3 h4 => match us, va, vb, ws, h1, h2, h3, h4 with | [_, _], [], [], [_, _, _, _], _, _, _, _ => rfl))) (fun hF => (fun _ hF => absurd hF (List.not_mem_nil)) Fz hF)) (fun cdv A outer s H vs Q E hr h => ⟨_,
    (pss_cons (DL.kSetFld (K := K) (pv 0) (pv 1))
     (pss_cons (DL.kSetFld (K := K) (pv 0) (pv 2))
     (pss_cons (DL.kSetFld (K := K) (pv 0) (pv 3))
     (pss_cons (DL.kSetFld (K := K) (pv 0) (pv 4))
     (pss_cons (DL.kSetFld (K := K) (pv 0) (pv 5))
     (pss_cons (DL.kSetFld (K := K) (pv 0) (DL.pe_cal h_break_lines hr (by decide) (by rfl) pass0 (pa_cons (pv 1) (pa_cons (pv 2) (pa_cons (pv 4) pa_nil)))))
     pss_nil)))))), ?_⟩)
  refine DL.run_spO h fun N x ds m hR hq => ?_
  obtain ⟨l, s, ld, w, al, h1, h2, h3, rfl, rfl⟩ := hR
  refine gs_is (env' := [some (.r 0), some (.i (dT l)), some (.i (.int s)), some (.i (.int ld)), some (.i (.int w)), some (.i (dT al))]) rfl rfl ?_
  refine DL.gs_setFld (k := 0) (s := .i (dT l)) (show EvX false _ _ _ _ _ from ex_var rfl) (er_var rfl (Nat.lt_succ_self 0)) rfl kC_Setting n_Setting_string (by decide) ?_
  refine gs_is (os' := [.ob C_Setting [("string", .i (dT l))]]) rfl rfl ?_
  refine DL.gs_setFld (k := 0) (s := .i (.int s)) (show EvX false _ _ _ _ _ from ex_var rfl) (er_var rfl (Nat.lt_succ_self 0)) rfl kC_Setting n_Setting_size (by simp) ?_
  refine gs_is (os' := [.ob C_Setting [("string", .i (dT l)), ("size", .i (.int s))]]) rfl rfl ?_
  refine DL.gs_setFld (k := 0) (s := .i (.int ld)) (show EvX false _ _ _ _ _ from ex_var rfl) (er_var rfl (Nat.lt_succ_self 0)) rfl kC_Setting n_Setting_lead (by simp) ?_
  refine gs_is (os' := [.ob C_Setting [("string", .i (dT l)), ("size", .i (.int s)), ("lead", .i (.int ld))]]) rfl rfl ?_
  refine DL.gs_setFld (k := 0) (s := .i (.int w)) (show EvX false _ _ _ _ _ from ex_var rfl) (er_var rfl (Nat.lt_succ_self 0)) rfl kC_Setting n_Setting_width (by simp) ?_
  refine gs_is (os' := [.ob C_Setting [("string", .i (dT l)), ("size", .i (.int s)), ("lead", .i (.int ld)), ("width", .i (.int w))]]) rfl rfl ?_
  refine DL.gs_setFld (k := 0) (s := .i (dT al)) (show EvX false _ _ _ _ _ from ex_var rfl) (er_var rfl (Nat.lt_succ_self 0)) rfl kC_Setting n_Setting_align (by simp) ?_
  refine gs_is (os' := [.ob C_Setting [("string", .i (dT l)), ("size", .i (.int s)), ("lead", .i (.int ld)), ("width", .i (.int w)), ("align", .i (dT al))]]) rfl rfl ?_
  refine DL.gs_setFld (k := 0) (s := .i (.list ((lines l s w).map dNN))) (show EvX false _ _ _ _ _ from EvF.ev (ef_call (ea_cons (ex_var rfl) (ea_cons (ex_var rfl) (ea_cons (ex_var rfl) ea_nil))) (R_break_lines_i h1 h2 (by omega)))) (er_var rfl (Nat.lt_succ_self 0)) rfl kC_Setting n_Setting_lines (by simp) ?_
  refine gs_is (os' := [.ob C_Setting ((setM l s ld w al).map fun p => (p.1, SV.i p.2))]) rfl rfl ?_
  exact DL.g_endO hq rfl
-- END Setting___init__
abbrev s_Setting___iter__ : Stmt := inClass (topS 15) 1
theorem sc_Setting___iter__ : FnScope ["self"] ["self"] (defScope s_Setting___iter__) := ⟨rfl, rfl, rfl, by decide +kernel, rfl, by decide +kernel, by decide +kernel⟩
def R_Setting___iter__ : List (Str × PyData) → List PyData → Prop := fun m ds => ∃ (l : List Nat) (s ld w : Int) (al : List Nat), m = setM l s ld w al ∧ ds = (lines l s w).map dNN
theorem R_Setting___iter___i {l : List Nat} {s ld w : Int} {al : List Nat} : R_Setting___iter__ (setM l s ld w al) ((lines l s w).map dNN) := ⟨l, s, ld, w, al, rfl, rfl⟩
local macro_rules | `(tactic| walk_at "r2") => `(tactic| exact R_Setting___iter___i)
theorem ok_Setting___iter__ {P : Program} {w : World} {K : PySem.W.Frag} {mg : Str → Option Value} {base : Heap} {f : Addr} {fd : FuncData} (F : DL.FnM K "__iter__" "Setting.__iter__" s_Setting___iter__ [] f fd) {C_Setting : Addr} (kC_Setting : Cls K C_Setting) (n_Setting_string : NoAttr K C_Setting "string") (n_Setting_size : NoAttr K C_Setting "size") (n_Setting_lead : NoAttr K C_Setting "lead") (n_Setting_width : NoAttr K C_Setting "width") (n_Setting_align : NoAttr K C_Setting "align") (n_Setting_lines : NoAttr K C_Setting "lines") (n_Setting___len__ : NoAttr K C_Setting "__len__") (n_Setting___length_hint__ : NoAttr K C_Setting "__length_hint__") (z_iter : mg "iter" = none) (me : Meth K C_Setting "__iter__" f) : DL.MetP P w K mg base 1 C_Setting "__iter__" ["self"] (DL.spIt K C_Setting R_Setting___iter__) := by
  refine DL.met_mk F sc_Setting___iter__ kC_Setting me DL.spIt_len (fun _ _ _ _ _ _ us hl => match us, hl with | [_], _ => rfl) (fun cdv A outer s H vs Q E hr h => ⟨_,
    (pss_cons (ps_ret (pe_callB (DL.kIter (K := K)) (by rfl) z_iter (by decide +kernel) (pa_cons (DL.kFld (K := K) (pv 0)) pa_nil)))
     pss_nil), ?_⟩)
  refine DL.run_spIt h fun N m ds hR hq => ?_
  obtain ⟨l, s, ld, w, al, rfl, rfl⟩ := hR
  refine gs_is (env' := [some (.ob C_Setting (setM l s ld w al))]) rfl rfl ?_
  exact DL.gs_retIt (DL.ex_fld (DL.eb_var rfl) kC_Setting n_Setting_lines rfl) hq
-- END Setting___iter__
abbrev s_Setting_places : Stmt := inClass (topS 15) 3
theorem sc_Setting_places : FnScope ["self", "number", "line"] ["self", "number"] (defScope s_Setting_places) := ⟨rfl, rfl, rfl, by decide +kernel, rfl, by decide +kernel, by decide +kernel⟩
def R_Setting_places : List (Str × PyData) → List PyData → PyData → Prop := fun m ds d => ∃ (l : List Nat) (s ld w : Int) (al : List Nat) (k a b : Nat), SetOk l s ld w al ∧ (lines l s w)[k]? = some (a, b) ∧ b ≤ l.length ∧ m = setM l s ld w al ∧ ds = [.int (k : Int)] ∧ d = .list ((plM s w al l a b).map PyData.int)
theorem R_Setting_places_i {l : List Nat} {s ld w : Int} {al : List Nat} {k a b : Nat} (h : SetOk l s ld w al) (h2 : (lines l s w)[k]? = some (a, b)) (h3 : b ≤ l.length) : R_Setting_places (setM l s ld w al) [.int (k : Int)] (.list ((plM s w al l a b).map PyData.int)) := ⟨l, s, ld, w, al, k, a, b, h, h2, h3, rfl, rfl, rfl⟩
local macro_rules | `(tactic| walk_at "r2") => `(tactic| exact R_Setting_places_i (by assumption) (by assumption) (by assumption))
theorem R_Setting_places_len : ∀ m ds d, R_Setting_places m ds d → ds.length = 1 := by
  intro m ds d hh
  unfold R_Setting_places at hh
  repeat (obtain ⟨_, hh⟩ := hh)
  subst_eqs
  rfl
theorem ok_Setting_places {P : Program} {w : World} {K : PySem.W.Frag} {mg : Str → Option Value} {base : Heap} {f : Addr} {fd : FuncData} (F : DL.FnM K "places" "Setting.places" s_Setting_places [] f fd) {C_Setting : Addr} (kC_Setting : Cls K C_Setting) (n_Setting_string : NoAttr K C_Setting "string") (n_Setting_size : NoAttr K C_Setting "size") (n_Setting_lead : NoAttr K C_Setting "lead") (n_Setting_width : NoAttr K C_Setting "width") (n_Setting_align : NoAttr K C_Setting "align") (n_Setting_lines : NoAttr K C_Setting "lines") (n_Setting___len__ : NoAttr K C_Setting "__len__") (n_Setting___length_hint__ : NoAttr K C_Setting "__length_hint__") (h_place_line : DL.CalQ P w K mg base 3 "place_line" ["string", "line", "size", "width", "align"] (spD K  R_place_line) [(2, ["size", "width", "align"], [])]) (me : Meth K C_Setting "places" f) : DL.MetP P w K mg base 4 C_Setting "places" ["self", "number"] (DL.spSD K C_Setting R_Setting_places) := by
  refine DL.met_mk F sc_Setting_places kC_Setting me (DL.spSD_len R_Setting_places_len) (fun _ _ _ _ _ _ us hl => match us, hl with | [_, _], _ => rfl) (fun cdv A outer s H vs Q E hr h => ⟨_,
    (pss_cons (ps_set (i := 2) sc_Setting_places.nd rfl (by first | exact Or.inl rfl | exact Or.inr rfl) (pe_ix (DL.kIxL (K := K)) (DL.kFld (K := K) (pv 0)) (pv 1) (fun _ _ => rfl)))
     (pss_cons (ps_ret (DL.pe_calQ h_place_line (List.mem_of_getElem? (i := 0) (a := ((2, ["size", "width", "align"], []) : DL.CForm)) rfl) hr (by decide) (by rfl) pass0 (pa_cons (DL.kFld (K := K) (pv 0)) (pa_cons (pv 2) pa_nil)) (pk_cons (DL.kFld (K := K) (pv 0)) (pk_cons (DL.kFld (K := K) (pv 0)) (pk_cons (DL.kFld (K := K) (pv 0)) pk_nil)))))
     pss_nil)), ?_⟩)
  refine DL.run_spSD h fun N m ds d hR hq => ?_
  obtain ⟨l, s, ld, w, al, k, a, b, hok, hk, hb, rfl, rfl, rfl⟩ := hR
  obtain ⟨h1, h2, _, h5, h3, h6⟩ := hok
  refine gs_is (env' := [some (.ob C_Setting (setM l s ld w al)), some (.i (.int (k : Int))), none]) rfl rfl ?_
  refine' gs_asg (d := dNN (a, b)) (ex_ixLD (ds := (lines l s w).map dNN) (DL.ex_fld (DL.eb_var rfl) kC_Setting n_Setting_lines rfl) (ex_var rfl) (atI_nat ?a1)) ?_
  case a1 => rw [List.getElem?_map, hk]; rfl
  walk_at "nf"
  refine gs_ret (ex_callQ (dd := []) (ea_cons (DL.ex_fld (DL.eb_var rfl) kC_Setting n_Setting_string rfl) (ea_cons (ex_var rfl) ea_nil)) (ea_cons (DL.ex_fld (DL.eb_var rfl) kC_Setting n_Setting_size rfl) (ea_cons (DL.ex_fld (DL.eb_var rfl) kC_Setting n_Setting_width rfl) (ea_cons (DL.ex_fld (DL.eb_var rfl) kC_Setting n_Setting_align rfl) ea_nil))) (fun _ _ => .nil) rfl rfl (R_place_line_i h1 h2 h5 h3 hb h6)) hq
-- END Setting_places
abbrev s_Setting_line_of : Stmt := inClass (topS 15) 6
theorem sc_Setting_line_of : FnScope ["self", "index", "begin", "number"] ["self", "index"] (defScope s_Setting_line_of) := ⟨rfl, rfl, rfl, by decide +kernel, rfl, by decide +kernel, by decide +kernel⟩
/-! lines by their place in the text -/
theorem mem_part {l : List Nat} {a b j x : Nat} (h : l[j]? = some x) (h1 : a ≤ j) (h2 : j < b) : x ∈ (l.drop a).take (b - a) := by
  refine List.mem_of_getElem? (i := j - a) ?_
  rw [List.getElem?_take_of_lt (by omega), List.getElem?_drop, show a + (j - a) = j by omega]
  exact h
theorem part_mem {l : List Nat} {a b x : Nat} (h : x ∈ (l.drop a).take (b - a)) : ∃ j, a ≤ j ∧ j < b ∧ l[j]? = some x := by
  obtain ⟨i, hi, e⟩ := List.mem_iff_getElem.mp h
  have hl : i < b - a := by rw [List.length_take] at hi; omega
  have e2 : ((l.drop a).take (b - a))[i]? = some x := by rw [List.getElem?_eq_getElem hi, e]
  rw [List.getElem?_take_of_lt hl, List.getElem?_drop] at e2
  exact ⟨a + i, by omega, by omega, e2⟩
theorem ltB_ten {l : List Nat} {k : Nat} (h : l[k]? = some 10) : ltB l k = false := by rw [ltB_at h]; rfl
theorem ltB_true {l : List Nat} {k : Nat} (h : ltB l k = true) : ∃ c, l[k]? = some c ∧ c ≠ 32 ∧ c ≠ 10 := by
  unfold ltB at h
  cases e : l[k]? with
  | none => rw [e] at h; cases h
  | some c =>
    rw [e] at h
    refine ⟨c, rfl, ?_, ?_⟩ <;> intro z <;> subst z <;> simp at h
/-- a line within its paragraph -/
theorem plines_at {l : List Nat} {S : Nat → Int} {w : Int} {p : NN} {c d : List NN} {a b : Nat} (h : plines l S w p = c ++ (a, b) :: d) :
    (brk S w (wordsM l p.1 p.2) = [] ∧ c = [] ∧ d = [] ∧ a = p.1 ∧ b = p.1) ∨ (brk S w (wordsM l p.1 p.2) ≠ [] ∧ plines l S w p = brk S w (wordsM l p.1 p.2) ∧ LOk l S w p.1 p.2 (plines l S w p)) := by
  by_cases z : brk S w (wordsM l p.1 p.2) = []
  · have e : plines l S w p = [(p.1, p.1)] := by unfold plines; rw [if_pos z]
    rw [e] at h
    cases c with
    | nil =>
      injection h with h1 h2
      injection h1 with h3 h4
      exact Or.inl ⟨z, rfl, h2.symm, h3.symm, h4.symm⟩
    | cons x c =>
      have := congrArg List.length h
      simp at this
  · have e : plines l S w p = brk S w (wordsM l p.1 p.2) := by unfold plines; rw [if_neg z]
    exact Or.inr ⟨z, e, by rw [e]; exact lok (words_ok l p.1 p.2)⟩
theorem plines_ne (l : List Nat) (S : Nat → Int) (w : Int) (p : NN) : plines l S w p ≠ [] := by
  unfold plines
  split
  · simp
  · assumption
theorem paras_next {l : List Nat} {p1 p2 : List NN} {p q : NN} (h : paras l = p1 ++ p :: q :: p2) : q.1 = p.2 + 1 ∧ l[p.2]? = some 10 ∧ p.2 < l.length := by
  obtain ⟨a1, a2, a3, a4, a5, a6⟩ := paras_at h
  have h2 : paras l = (p1 ++ [p]) ++ q :: p2 := by rw [h]; simp
  obtain ⟨b1, _⟩ := paras_at h2
  rw [parAt_snoc] at b1
  have hlt : p.2 < l.length := by
    have : p.2 ≠ l.length := fun z => by have := a6.mpr z; cases this
    omega
  exact ⟨b1, a5 hlt, hlt⟩
theorem hi_end {l : List Nat} {p1 p2 : List NN} {p : NN} (h : paras l = p1 ++ p :: p2) {m : Nat} (hm : m = p.2 ∨ ltB l m = false) : m = l.length ∨ ltB l m = false := by
  rcases hm with z | z
  · obtain ⟨a1, a2, a3, a4, a5, a6⟩ := paras_at h
    by_cases y : p.2 = l.length
    · exact Or.inl (z.trans y)
    · exact Or.inr (ltB_ten (by rw [z]; exact a5 (by omega)))
  · exact Or.inr z
theorem lines_at {l : List Nat} {s w : Int} {pre post : List NN} {a b : Nat} (h : lines l s w = pre ++ (a, b) :: post) : a ≤ b ∧ b ≤ l.length ∧ (Run l a b ∨ sumsOf s l b - sumsOf s l a ≤ w) := by
  obtain ⟨p1, p, p2, c, d, h1, h2, h3, h4⟩ := flatMap_split h
  obtain ⟨a1, a2, a3, a4, a5, a6⟩ := paras_at h1
  rcases plines_at h2 with ⟨_, _, _, e1, e2⟩ | ⟨_, _, L⟩
  · subst e1 e2
    exact ⟨Nat.le_refl _, by omega, Or.inl fun k k1 k2 => by omega⟩
  · obtain ⟨b1, b2, b3, b4, b5, b6, b7, b8, b9⟩ := L.each _ _ _ _ h2
    exact ⟨by omega, by omega, b9⟩
/-- two lines, one behind the other -/
theorem lines_next {l : List Nat} {s w : Int} {pre post : List NN} {a b a' b' : Nat} (h : lines l s w = pre ++ (a, b) :: (a', b') :: post) :
    b ≤ a' ∧ ((∃ j, b ≤ j ∧ j < a' ∧ l[j]? = some 10) ∨ ∃ m, a' < m ∧ m ≤ b' ∧ Run l a' m ∧ (m = l.length ∨ ltB l m = false) ∧ w < sumsOf s l m - sumsOf s l a) := by
  obtain ⟨p1, p, p2, c, d, h1, h2, h3, h4⟩ := flatMap_split h
  obtain ⟨a1, a2, a3, a4, a5, a6⟩ := paras_at h1
  have hb : b ≤ p.2 := by
    rcases plines_at h2 with ⟨_, _, _, e1, e2⟩ | ⟨_, _, L⟩
    · omega
    · obtain ⟨b1, b2, b3, b4, b5, b6, b7, b8, b9⟩ := L.each _ _ _ _ h2
      exact b3
  cases d with
  | nil =>
    rw [List.nil_append] at h4
    cases p2 with
    | nil => cases h4
    | cons q p2 =>
      obtain ⟨n1, n2, n3⟩ := paras_next h1
      obtain ⟨y, r, hy⟩ := List.exists_cons_of_ne_nil (plines_ne l (sumsOf s l) w q)
      rw [List.flatMap_cons, hy] at h4
      injection h4 with h5 h6
      have hq : plines l (sumsOf s l) w q = [] ++ (a', b') :: r := by rw [hy, ← h5]; rfl
      have ha : q.1 ≤ a' := by
        rcases plines_at hq with ⟨_, _, _, e1, e2⟩ | ⟨_, _, L⟩
        · omega
        · obtain ⟨b1, _⟩ := L.each _ _ _ _ hq
          rw [lastE_nil] at b1
          exact b1
      exact ⟨by omega, Or.inl ⟨p.2, hb, by omega, n2⟩⟩
  | cons y d =>
    rw [List.cons_append] at h4
    injection h4 with h5 h6
    rw [← h5] at h2
    rcases plines_at h2 with ⟨_, _, e0, _⟩ | ⟨_, _, L⟩
    · cases e0
    · obtain ⟨m, m1, m2, m3, m4, m5⟩ := L.next _ _ _ _ _ _ h2
      have h7 : plines l (sumsOf s l) w p = (c ++ [(a, b)]) ++ (a', b') :: d := by rw [h2]; simp
      obtain ⟨b1, _⟩ := L.each _ _ _ _ h7
      rw [lastE_snoc] at b1
      exact ⟨b1, Or.inr ⟨m, m1, m2, m3, hi_end h1 m4, m5⟩⟩
theorem lines_pairs (l : List Nat) (s w : Int) : ∀ p ∈ lines l s w, p.1 ≤ p.2 ∧ p.2 ≤ l.length := fun p hp => by
  obtain ⟨pre, post, e⟩ := List.append_of_mem hp
  obtain ⟨a, b⟩ := p
  obtain ⟨h1, h2, _⟩ := lines_at e
  exact ⟨h1, h2⟩
theorem lines_few (l : List Nat) (s w : Int) : (lines l s w).length ≤ l.length + 1 := by
  have := plines_few l (sumsOf s l) w (paras l) [] (by simp)
  rw [paras_last] at this
  exact this
theorem split_at {α : Type} {l : List α} {k : Nat} {x : α} (h : l[k]? = some x) : l = l.take k ++ x :: l.drop (k + 1) := by
  obtain ⟨hk, e⟩ := List.getElem?_eq_some_iff.mp h
  rw [← e, List.getElem_cons_drop]
  exact (List.take_append_drop k l).symm
/-! what stands between the lines -/
def isBl (l : List Nat) : Bool := l.all fun c => decide (c = 32) || decide (c = 10)
theorem isBl_iff (l : List Nat) : isBl l = true ↔ ∀ c ∈ l, c = 32 ∨ c = 10 := by
  unfold isBl
  rw [List.all_eq_true]
  constructor
  · intro h c hc
    simpa using h c hc
  · intro h c hc
    simpa using h c hc
theorem ltB_false {l : List Nat} {k c : Nat} (h : l[k]? = some c) (h2 : ltB l k = false) : c = 32 ∨ c = 10 := by
  rw [ltB_at h] at h2
  by_cases h3 : c = 32
  · exact Or.inl h3
  · by_cases h4 : c = 10
    · exact Or.inr h4
    · simp [h3, h4] at h2
theorem gap_bl {l : List Nat} {a b : Nat} (h : Gap l a b) : isBl ((l.drop a).take (b - a)) = true := by
  rw [isBl_iff]
  intro c hc
  obtain ⟨j, j1, j2, j3⟩ := part_mem hc
  exact ltB_false j3 (h j j1 j2)
theorem upC_no (d : Nat) : ∀ l : List Nat, d ∉ upC d l
  | [] => by simp [upC]
  | c :: l => by
    rw [upC_cons]
    split
    · simp
    · rename_i h
      intro z
      rcases List.mem_cons.mp z with y | y
      · exact h y.symm
      · exact upC_no d l y
theorem ends_blank (x : List Nat) : decide (stripL 32 (upC 10 x) = []) = isBl (upC 10 x) := by
  have h := upC_no 10 x
  generalize upC 10 x = r at *
  by_cases z : ∀ c ∈ r, c = 32
  · rw [decide_eq_true ((stripL_nil 32 r).mpr z)]
    exact ((isBl_iff r).mpr fun c hc => Or.inl (z c hc)).symm
  · rw [decide_eq_false fun y => z ((stripL_nil 32 r).mp y)]
    refine (Bool.eq_false_iff.mpr fun y => z fun c hc => ?_).symm
    rcases (isBl_iff r).mp y c hc with q | q
    · exact q
    · subst q; exact absurd hc h
theorem take_upC (d : Nat) (l : List Nat) : l.take (upC d l).length = upC d l := (List.prefix_iff_eq_take.mp (List.takeWhile_prefix _)).symm
/-- the rest of a paragraph -/
theorem upC_para {l : List Nat} {b hi : Nat} (h1 : b ≤ hi) (h2 : hi ≤ l.length) (h3 : ∀ j, b ≤ j → j < hi → l[j]? ≠ some 10) (h4 : hi = l.length ∨ l[hi]? = some 10) : upC 10 (l.drop b) = (l.drop b).take (hi - b) := by
  have hn : 10 ∉ (l.drop b).take (hi - b) := fun z => by
    obtain ⟨j, j1, j2, j3⟩ := part_mem z
    exact h3 j j1 j2 j3
  rcases h4 with z | z
  · rw [z] at hn ⊢
    have e : (l.drop b).take (l.length - b) = l.drop b := List.take_of_length_le (by rw [List.length_drop]; exact Nat.le_refl _)
    rw [e] at hn ⊢
    exact upC_none 10 _ hn
  · obtain ⟨hlt, e⟩ := List.getElem?_eq_some_iff.mp z
    have hsp : l.drop b = (l.drop b).take (hi - b) ++ 10 :: l.drop (hi + 1) := by
      conv => lhs; rw [← List.take_append_drop (hi - b) (l.drop b)]
      rw [List.drop_drop, show b + (hi - b) = hi by omega, List.drop_eq_getElem_cons hlt, e]
    conv => lhs; rw [hsp]
    exact upC_pre 10 _ _ hn
theorem count_none {l : List Nat} {a b : Nat} (h : ∀ j, a ≤ j → j < b → l[j]? ≠ some 10) : ((l.drop a).take (b - a)).count 10 = 0 := by
  rw [List.count_eq_zero]
  intro z
  obtain ⟨j, j1, j2, j3⟩ := part_mem z
  exact h j j1 j2 j3
theorem part_join {l : List Nat} {a m b : Nat} (h1 : a ≤ m) (h2 : m ≤ b) : (l.drop a).take (b - a) = (l.drop a).take (m - a) ++ (l.drop m).take (b - m) := by
  conv => lhs; rw [show b - a = (m - a) + (b - m) by omega, List.take_add]
  rw [List.drop_drop, show a + (m - a) = m by omega]
theorem count_one {l : List Nat} {a h b : Nat} (h1 : a ≤ h) (h2 : h < b) (h3 : l[h]? = some 10) (h4 : ∀ j, a ≤ j → j < b → j ≠ h → l[j]? ≠ some 10) : ((l.drop a).take (b - a)).count 10 = 1 := by
  obtain ⟨hlt, e⟩ := List.getElem?_eq_some_iff.mp h3
  rw [part_join h1 (Nat.le_of_lt h2), List.count_append, count_none fun j j1 j2 => h4 j j1 (by omega) (by omega)]
  rw [part_join (show h ≤ h + 1 by omega) (show h + 1 ≤ b by omega), List.count_append, count_none (l := l) (a := h + 1) (b := b) fun j j1 j2 => h4 j (by omega) j2 (by omega)]
  rw [List.drop_eq_getElem_cons hlt, e, show h + 1 - h = 1 by omega]
  rfl
/-- a line and what stands ahead of it -/
structure LnOk (l : List Nat) (pre : List NN) (a b : Nat) : Prop where
  asc : lastE 0 pre ≤ a
  gap : Gap l (lastE 0 pre) a
  cnt : ((l.drop (lastE 0 pre)).take (a - lastE 0 pre)).count 10 ≤ if pre = [] then 0 else 1
  sep : ∀ q x y, pre = q ++ [(x, y)] → (a = b ∨ x = y) → ((l.drop (lastE 0 pre)).take (a - lastE 0 pre)).count 10 ≠ 0
  le : a ≤ b ∧ b ≤ l.length
  emp : a = b → (a = 0 ∨ l[a - 1]? = some 10) ∧ isBl (upC 10 (l.drop a)) = true
  ful : a < b → 10 ∉ (l.drop a).take (b - a) ∧ (0 < a → ltB l (a - 1) = false) ∧ (b < l.length → ltB l b = false) ∧ ltB l a = true ∧ ltB l (b - 1) = true
theorem para_no {l : List Nat} {p1 p2 : List NN} {p : NN} (h : paras l = p1 ++ p :: p2) : ∀ j, p.1 ≤ j → j < p.2 → l[j]? ≠ some 10 := fun j j1 j2 z => by
  obtain ⟨a1, a2, a3, a4, a5, a6⟩ := paras_at h
  exact a4 (mem_part z j1 j2)
theorem lastE_app (lo lo' : Nat) (a b : List NN) (h : b ≠ []) : lastE lo (a ++ b) = lastE lo' b := by
  rcases List.eq_nil_or_concat b with z | ⟨q, p, z⟩
  · exact absurd z h
  · rw [z, List.concat_eq_append, ← List.append_assoc, lastE_snoc, lastE_snoc]
/-- the end of a paragraph's last line -/
theorem plines_last {l : List Nat} {S : Nat → Int} {w : Int} (p : NN) (hp : p.1 ≤ p.2) : p.1 ≤ lastE p.1 (plines l S w p) ∧ lastE p.1 (plines l S w p) ≤ p.2 ∧ Gap l (lastE p.1 (plines l S w p)) p.2 := by
  obtain ⟨y, r, hy⟩ := List.exists_cons_of_ne_nil (plines_ne l S w p)
  rcases List.eq_nil_or_concat (plines l S w p) with z | ⟨q, x, z⟩
  · exact absurd z (plines_ne l S w p)
  rw [List.concat_eq_append] at z
  obtain ⟨a, b⟩ := x
  rcases plines_at z with ⟨e0, e1, e2, e3, e4⟩ | ⟨_, _, L⟩
  · rw [z, lastE_snoc]
    simp only
    rw [e4]
    refine ⟨Nat.le_refl _, hp, ?_⟩
    have hw := brk_nil e0
    have := (words_ok l p.1 p.2).gap
    rw [hw, lastE_nil] at this
    exact this
  · obtain ⟨b1, b2, b3, b4, b5, b6, b7, b8, b9⟩ := L.each _ _ _ _ z
    have hg := L.gap
    have hl := L.low _ _ _ _ z
    rw [z, lastE_snoc] at hg ⊢
    exact ⟨by simp only; omega, b3, hg⟩
theorem line_ok {l : List Nat} {s w : Int} {pre post : List NN} {a b : Nat} (h : lines l s w = pre ++ (a, b) :: post) : LnOk l pre a b := by
  obtain ⟨p1, p, p2, c, d, h1, h2, h3, h4⟩ := flatMap_split h
  obtain ⟨a1, a2, a3, a4, a5, a6⟩ := paras_at h1
  have hno := para_no h1
  have hend : p.2 = l.length ∨ l[p.2]? = some 10 := by
    by_cases z : p.2 = l.length
    · exact Or.inl z
    · exact Or.inr (a5 (by omega))
  -- ahead of the paragraph
  have hlo : p.1 = 0 ∨ l[p.1 - 1]? = some 10 := by
    rcases List.eq_nil_or_concat p1 with z | ⟨q, p', z⟩
    · rw [z, parAt_nil] at a1; exact Or.inl a1
    · rw [List.concat_eq_append] at z
      obtain ⟨n1, n2, n3⟩ := paras_next (p1 := q) (p := p') (q := p) (p2 := p2) (by rw [h1, z]; simp)
      exact Or.inr (by rw [n1]; exact n2)
  have hle : a ≤ b ∧ b ≤ p.2 ∧ p.1 ≤ a := by
    rcases plines_at h2 with ⟨_, _, _, e1, e2⟩ | ⟨_, _, L⟩
    · omega
    · obtain ⟨b1, b2, b3, b4, b5, b6, b7, b8, b9⟩ := L.each _ _ _ _ h2
      have := L.low _ _ _ _ h2
      omega
  have hemp : a = b → (a = 0 ∨ l[a - 1]? = some 10) ∧ isBl (upC 10 (l.drop a)) = true := fun e => by
    rcases plines_at h2 with ⟨e0, _, _, e1, e2⟩ | ⟨_, _, L⟩
    · rw [e1]
      refine ⟨hlo, ?_⟩
      rw [upC_para a2 a3 hno hend]
      have hw := brk_nil e0
      have := (words_ok l p.1 p.2).gap
      rw [hw, lastE_nil] at this
      exact gap_bl this
    · obtain ⟨b1, b2, _⟩ := L.each _ _ _ _ h2
      omega
  have hful : a < b → 10 ∉ (l.drop a).take (b - a) ∧ (0 < a → ltB l (a - 1) = false) ∧ (b < l.length → ltB l b = false) ∧ ltB l a = true ∧ ltB l (b - 1) = true := fun e => by
    rcases plines_at h2 with ⟨e0, _, _, e1, e2⟩ | ⟨_, _, L⟩
    · omega
    · obtain ⟨b1, b2, b3, b4, b5, b6, b7, b8, b9⟩ := L.each _ _ _ _ h2
      refine ⟨fun z => ?_, fun h0 => ?_, fun h0 => ?_, b5, b6⟩
      · obtain ⟨j, j1, j2, j3⟩ := part_mem z
        exact hno j (by omega) (by omega) j3
      · rcases b7 with z | z
        · rw [z] at h0 ⊢
          rcases hlo with y | y
          · omega
          · exact ltB_ten y
        · exact z
      · rcases b8 with z | z
        · rw [z]
          rcases hend with y | y
          · omega
          · exact ltB_ten y
        · exact z
  by_cases hc : c = []
  · subst hc
    rw [List.append_nil] at h3
    -- the line begins its paragraph
    have hg2 : Gap l p.1 a := by
      rcases plines_at h2 with ⟨e0, _, _, e1, e2⟩ | ⟨_, _, L⟩
      · rw [e1]; exact fun k k1 k2 => by omega
      · obtain ⟨b1, b2, b3, b4, _⟩ := L.each _ _ _ _ h2
        rw [lastE_nil] at b4
        exact b4
    rcases List.eq_nil_or_concat p1 with z | ⟨q, p', z⟩
    · have hp : pre = [] := by rw [h3, z]; rfl
      rw [z, parAt_nil] at a1
      subst hp
      rw [a1] at hg2
      refine ⟨Nat.zero_le _, hg2, ?_, fun q x y e => absurd e (by simp), ⟨hle.1, by omega⟩, hemp, hful⟩
      rw [if_pos rfl, lastE_nil, count_none fun j j1 j2 => hno j (by omega) (by omega)]
      exact Nat.le_refl _
    · rw [List.concat_eq_append] at z
      have h5 : paras l = q ++ p' :: p :: p2 := by rw [h1, z]; simp
      obtain ⟨n1, n2, n3⟩ := paras_next h5
      obtain ⟨c1, c2, _⟩ := paras_at h5
      have hno' := para_no h5
      obtain ⟨m1, m2, m3⟩ := plines_last (l := l) (S := sumsOf s l) (w := w) p' c2
      have hpre : pre = q.flatMap (plines l (sumsOf s l) w) ++ plines l (sumsOf s l) w p' := by rw [h3, z, List.flatMap_append]; simp
      have hE : lastE 0 pre = lastE p'.1 (plines l (sumsOf s l) w p') := by rw [hpre]; exact lastE_app 0 p'.1 _ _ (plines_ne _ _ _ _)
      have hne : pre ≠ [] := by
        rw [hpre]
        exact fun y => plines_ne l (sumsOf s l) w p' (List.append_eq_nil_iff.mp y).2
      generalize lastE p'.1 (plines l (sumsOf s l) w p') = e0 at *
      have hcnt : ((l.drop e0).take (a - e0)).count 10 = 1 := count_one (h := p'.2) m2 (by omega) n2 fun j j1 j2 j3 => by
        by_cases y : j < p'.2
        · exact hno' j (by omega) y
        · exact hno j (by omega) (by omega)
      refine ⟨by rw [hE]; omega, ?_, ?_, fun q x y e _ => ?_, ⟨hle.1, by omega⟩, hemp, hful⟩
      · rw [hE]
        intro k k1 k2
        by_cases y : k < p'.2
        · exact m3 k k1 y
        · by_cases y2 : k = p'.2
          · rw [y2]; exact ltB_ten n2
          · exact hg2 k (by omega) k2
      · rw [hE, hcnt, if_neg hne]; exact Nat.le_refl _
      · rw [hE, hcnt]; decide
  · rcases plines_at h2 with ⟨_, e0, _⟩ | ⟨_, _, L⟩
    · exact absurd e0 hc
    · obtain ⟨b1, b2, b3, b4, b5, b6, b7, b8, b9⟩ := L.each _ _ _ _ h2
      have hlw := L.low _ _ _ _ h2
      have hE : lastE 0 pre = lastE p.1 c := by rw [h3]; exact lastE_app 0 p.1 _ _ hc
      have hne : pre ≠ [] := by rw [h3]; exact fun y => hc (List.append_eq_nil_iff.mp y).2
      refine ⟨by rw [hE]; exact b1, by rw [hE]; exact b4, ?_, fun q x y e g => ?_, ⟨hle.1, by omega⟩, hemp, hful⟩
      · rw [hE, count_none fun j j1 j2 => hno j (by omega) (by omega)]
        exact Nat.zero_le _
      · exfalso
        rcases List.eq_nil_or_concat c with z | ⟨c2, x2, z⟩
        · exact hc z
        · rw [List.concat_eq_append] at z
          rw [h3, z, ← List.append_assoc] at e
          obtain ⟨_, e4⟩ := List.append_inj' e rfl
          injection e4 with e4
          rw [z, e4] at h2
          have h6 : plines l (sumsOf s l) w p = c2 ++ (x, y) :: ((a, b) :: d) := by rw [h2]; simp
          obtain ⟨_, d2, _⟩ := L.each _ _ _ _ h6
          omega
theorem lines_ne (l : List Nat) (s w : Int) : lines l s w ≠ [] := by
  intro z
  have h : paras l ≠ [] := fun y => by
    have := paras_len l
    rw [y] at this
    simp at this
    omega
  obtain ⟨p, ps, e⟩ := List.exists_cons_of_ne_nil h
  unfold lines at z
  rw [e, List.flatMap_cons] at z
  exact plines_ne l (sumsOf s l) w p (List.append_eq_nil_iff.mp z).1
theorem lines_end (l : List Nat) (s w : Int) : lastE 0 (lines l s w) ≤ l.length ∧ Gap l (lastE 0 (lines l s w)) l.length ∧ 10 ∉ l.drop (lastE 0 (lines l s w)) := by
  rcases List.eq_nil_or_concat (paras l) with z | ⟨q, p, z⟩
  · have := paras_len l
    rw [z] at this
    simp at this
    omega
  · rw [List.concat_eq_append] at z
    obtain ⟨a1, a2, a3, a4, a5, a6⟩ := paras_at (post := []) z
    have hno := para_no (p2 := []) z
    have hhi : p.2 = l.length := a6.mp rfl
    obtain ⟨m1, m2, m3⟩ := plines_last (l := l) (S := sumsOf s l) (w := w) p a2
    have hE : lastE 0 (lines l s w) = lastE p.1 (plines l (sumsOf s l) w p) := by
      unfold lines
      rw [z, List.flatMap_append]
      simp only [List.flatMap_cons, List.flatMap_nil, List.append_nil]
      exact lastE_app 0 p.1 _ _ (plines_ne _ _ _ _)
    rw [hE]
    generalize lastE p.1 (plines l (sumsOf s l) w p) = e0 at *
    rw [hhi] at m2 m3 hno
    refine ⟨m2, m3, fun y => ?_⟩
    have e : l.drop e0 = (l.drop e0).take (l.length - e0) := (List.take_of_length_le (by rw [List.length_drop]; exact Nat.le_refl _)).symm
    rw [e] at y
    obtain ⟨j, j1, j2, j3⟩ := part_mem y
    exact hno j (by omega) j2 j3
theorem plM_len (s w : Int) (al l : List Nat) (a b : Nat) (h1 : a ≤ b) (h2 : b ≤ l.length) : (plM s w al l a b).length = b - a + 1 := by
  have hp : ((l.drop a).take (b - a)).length = b - a := by rw [List.length_take, List.length_drop]; omega
  unfold plM fullM placesM
  split
  · split
    · rw [fullP_len, hp]
    · rw [fullP_len, hp]
  · rw [List.length_map, offs_len, hp]
def posX (s w : Int) (al l : List Nat) (a b i : Nat) : Int := (plM s w al l a b).getD (i - a) 0
theorem posX_at {s w : Int} {al l : List Nat} {a b i : Nat} (h1 : a ≤ i) (h2 : i ≤ b) (h3 : b ≤ l.length) : (plM s w al l a b)[i - a]? = some (posX s w al l a b i) := by
  have hl := plM_len s w al l a b (by omega) h3
  unfold posX
  rw [List.getD_eq_getElem?_getD, List.getElem?_eq_getElem (by omega)]
  rfl
theorem atI_natE {α : Type} {xs : List α} {i : Int} {k : Nat} {v : α} (hi : i = (k : Int)) (h : xs[k]? = some v) : atI xs i = some v := by rw [hi]; exact atI_nat h
def lineAt (l : List Nat) (s w : Int) (k : Nat) : NN := (lines l s w).getD k (0, 0)
theorem line_at {l : List Nat} {s w : Int} {k : Nat} (h : k < (lines l s w).length) : (lines l s w)[k]? = some (lineAt l s w k) := by
  unfold lineAt
  rw [List.getD_eq_getElem?_getD, List.getElem?_eq_getElem h]
  rfl
theorem line_mono {l : List Nat} {s w : Int} {k : Nat} (h : k + 1 < (lines l s w).length) : (lineAt l s w k).2 ≤ (lineAt l s w (k + 1)).1 := by
  have h1 := split_at (line_at (l := l) (s := s) (w := w) (k := k) (by omega))
  have h2 := line_at (l := l) (s := s) (w := w) (k := k + 1) h
  have h3 : ((lines l s w).drop (k + 1))[0]? = some (lineAt l s w (k + 1)) := by rw [List.getElem?_drop]; exact h2
  cases hd : (lines l s w).drop (k + 1) with
  | nil => rw [hd] at h3; cases h3
  | cons y r =>
    rw [hd] at h3 h1
    cases h3
    exact (lines_next (a := (lineAt l s w k).1) (b := (lineAt l s w k).2) (a' := (lineAt l s w (k + 1)).1) (b' := (lineAt l s w (k + 1)).2) h1).1
def fM (S : Nat → Nat) (b i : Nat) : Nat → Int
  | 0 => -1
  | k + 1 => if b ≤ S k ∧ (fM S b i k < 0 ∨ S k ≤ i) then (k : Int) else fM S b i k
theorem fM_inv (S : Nat → Nat) (b i : Nat) : ∀ K, (fM S b i K = -1 ∧ ∀ j, j < K → S j < b) ∨ ∃ N : Nat, fM S b i K = (N : Int) ∧ N < K ∧ b ≤ S N ∧ (∀ k, k < N → b ≤ S k → S N ≤ i) ∧ ∀ k, N < k → k < K → b ≤ S k → i < S k
  | 0 => Or.inl ⟨rfl, fun j h => by omega⟩
  | K + 1 => by
    have ih := fM_inv S b i K
    unfold fM
    rcases ih with ⟨h1, h2⟩ | ⟨N, h1, h2, h3, h4, h5⟩
    · by_cases h : b ≤ S K
      · rw [if_pos ⟨h, Or.inl (by omega)⟩]
        exact Or.inr ⟨K, rfl, by omega, h, fun k k1 k2 => by have := h2 k k1; omega, fun k k1 k2 => by omega⟩
      · rw [if_neg (fun z => h z.1)]
        exact Or.inl ⟨h1, fun j j1 => by
          by_cases e : j = K
          · rw [e]; omega
          · exact h2 j (by omega)⟩
    · by_cases h : b ≤ S K ∧ S K ≤ i
      · rw [if_pos ⟨h.1, Or.inr h.2⟩]
        exact Or.inr ⟨K, rfl, by omega, h.1, fun k _ _ => h.2, fun k k1 k2 => by omega⟩
      · rw [if_neg (fun z => h ⟨z.1, z.2.elim (fun y => absurd y (by omega)) id⟩)]
        exact Or.inr ⟨N, h1, by omega, h3, h4, fun k k1 k2 k3 => by
          by_cases e : k = K
          · subst e; omega
          · exact h5 k k1 (by omega) k3⟩
/-- the number of the line of the index i -/
def lnI (l : List Nat) (s w : Int) (i : Nat) : Nat := (fM (fun k => (lineAt l s w k).1) (DL.bgn l i) i (lines l s w).length).toNat
theorem starts_mono {l : List Nat} {s w : Int} : ∀ (d k : Nat), k + d < (lines l s w).length → (lineAt l s w k).1 ≤ (lineAt l s w (k + d)).1
  | 0, k, _ => Nat.le_refl _
  | d + 1, k, h => by
    have h1 := starts_mono (l := l) (s := s) (w := w) d k (by omega)
    have h2 := line_mono (l := l) (s := s) (w := w) (k := k + d) h
    have h3 := lines_pairs l s w _ (List.mem_of_getElem? (line_at (l := l) (s := s) (w := w) (k := k + d) (by omega)))
    rw [show k + (d + 1) = k + d + 1 by omega]
    omega
theorem last_start (l : List Nat) (s w : Int) (i : Nat) (hi : i ≤ l.length) : DL.bgn l i ≤ (lineAt l s w ((lines l s w).length - 1)).1 := by
  have hne := List.length_pos_iff.mpr (lines_ne l s w)
  have hat := line_at (l := l) (s := s) (w := w) (k := (lines l s w).length - 1) (by omega)
  have hsp := split_at hat
  have hlk := line_ok (a := (lineAt l s w ((lines l s w).length - 1)).1) (b := (lineAt l s w ((lines l s w).length - 1)).2) hsp
  obtain ⟨z1, z2, z3⟩ := lines_end l s w
  have hdrop : (lines l s w).drop ((lines l s w).length - 1 + 1) = [] := List.drop_eq_nil_of_le (by omega)
  rw [hdrop] at hsp
  have hlast : lastE 0 (lines l s w) = (lineAt l s w ((lines l s w).length - 1)).2 := by
    have := congrArg (lastE 0) hsp
    rw [this]
    exact lastE_snoc 0 _ _
  rw [hlast] at z1 z2 z3
  generalize lineAt l s w ((lines l s w).length - 1) = q at *
  obtain ⟨a, b⟩ := q
  obtain ⟨b1, b2, b3⟩ := DL.bgn_spec l i
  obtain ⟨p1, p2⟩ := hlk.le
  show DL.bgn l i ≤ a
  by_cases h : DL.bgn l i ≤ a
  · exact h
  · exfalso
    rcases b2 with z | z
    · omega
    · have hlt : DL.bgn l i - 1 < b := by
        by_cases e : DL.bgn l i - 1 < b
        · exact e
        · exfalso
          refine z3 (List.mem_iff_getElem?.mpr ⟨DL.bgn l i - 1 - b, ?_⟩)
          rw [List.getElem?_drop, show b + (DL.bgn l i - 1 - b) = DL.bgn l i - 1 by omega]
          exact z
      have hab : a < b := by omega
      exact (hlk.ful hab).1 (mem_part z (by omega) hlt)
theorem lnI_ok (l : List Nat) (s w : Int) (i : Nat) (hi : i ≤ l.length) : fM (fun k => (lineAt l s w k).1) (DL.bgn l i) i (lines l s w).length = ((lnI l s w i : Nat) : Int) ∧ lnI l s w i < (lines l s w).length ∧ DL.bgn l i ≤ (lineAt l s w (lnI l s w i)).1 ∧ (∀ k, k < lnI l s w i → DL.bgn l i ≤ (lineAt l s w k).1 → (lineAt l s w (lnI l s w i)).1 ≤ i) ∧ ∀ k, lnI l s w i < k → k < (lines l s w).length → i < (lineAt l s w k).1 := by
  have hne := List.length_pos_iff.mpr (lines_ne l s w)
  have hls := last_start l s w i hi
  unfold lnI
  rcases fM_inv (fun k => (lineAt l s w k).1) (DL.bgn l i) i (lines l s w).length with ⟨h1, h2⟩ | ⟨N, h1, h2, h3, h4, h5⟩
  · exact absurd (h2 ((lines l s w).length - 1) (by omega)) (by omega)
  · rw [h1, Int.toNat_natCast]
    refine ⟨rfl, h2, h3, h4, fun k k1 k2 => h5 k k1 k2 ?_⟩
    have := starts_mono (l := l) (s := s) (w := w) (k - N) N (by omega)
    rw [show N + (k - N) = k by omega] at this
    omega
def R_Setting_line_of : List (Str × PyData) → List PyData → PyData → Prop := fun m ds d => ∃ (l : List Nat) (s ld w : Int) (al : List Nat) (i : Nat), SetOk l s ld w al ∧ i ≤ l.length ∧ m = setM l s ld w al ∧ ds = [.int (i : Int)] ∧ d = .int ((lnI l s w i : Nat) : Int)
theorem R_Setting_line_of_i {l : List Nat} {s ld w : Int} {al : List Nat} {i : Nat} (h : SetOk l s ld w al) (h2 : i ≤ l.length) : R_Setting_line_of (setM l s ld w al) [.int (i : Int)] (.int ((lnI l s w i : Nat) : Int)) := ⟨l, s, ld, w, al, i, h, h2, rfl, rfl, rfl⟩
local macro_rules | `(tactic| walk_at "r2") => `(tactic| exact R_Setting_line_of_i (by assumption) (by assumption))
theorem R_Setting_line_of_len : ∀ m ds d, R_Setting_line_of m ds d → ds.length = 1 := by
  intro m ds d hh
  unfold R_Setting_line_of at hh
  repeat (obtain ⟨_, hh⟩ := hh)
  subst_eqs
  rfl
theorem ok_Setting_line_of {P : Program} {w : World} {K : PySem.W.Frag} {mg : Str → Option Value} {base : Heap} {f : Addr} {fd : FuncData} (F : DL.FnM K "line_of" "Setting.line_of" s_Setting_line_of [] f fd) {C_Setting : Addr} (kC_Setting : Cls K C_Setting) (n_Setting_string : NoAttr K C_Setting "string") (n_Setting_size : NoAttr K C_Setting "size") (n_Setting_lead : NoAttr K C_Setting "lead") (n_Setting_width : NoAttr K C_Setting "width") (n_Setting_align : NoAttr K C_Setting "align") (n_Setting_lines : NoAttr K C_Setting "lines") (n_Setting___len__ : NoAttr K C_Setting "__len__") (n_Setting___length_hint__ : NoAttr K C_Setting "__length_hint__") (z_max : mg "max" = none) (z_len : mg "len" = none) (me : Meth K C_Setting "line_of" f) : DL.MetP P w K mg base 1 C_Setting "line_of" ["self", "index"] (DL.spSD K C_Setting R_Setting_line_of) := by
  refine DL.met_mk F sc_Setting_line_of kC_Setting me (DL.spSD_len R_Setting_line_of_len) (fun _ _ _ _ _ _ us hl => match us, hl with | [_, _], _ => rfl) (fun cdv A outer s H vs Q E hr h => ⟨_,
    (pss_cons (ps_set (i := 2) sc_Setting_line_of.nd rfl (by first | exact Or.inl rfl | exact Or.inr rfl) (pe_op op_add (DL.kBm (K := K) (pe_bm PySem.F.plainAttrs_str PySem.F.slot_str_rfind PySem.F.type_str_rfind mt_rfind4 (DL.kFld (K := K) (pv 0)) (pa_cons pe_str (pa_cons pe_int (pa_cons (pe_callB (call_max2 rfl) (by rfl) z_max (by decide +kernel) (pa_cons (pv 1) (pa_cons pe_int pa_nil))) pa_nil))))) pe_int))
     (pss_cons (ps_set (i := 3) sc_Setting_line_of.nd rfl (by first | exact Or.inl rfl | exact Or.inr rfl) pe_int)
     (pss_cons (ps_while PassesOwn.never (pt_cmpR op_lt (pe_ix (DL.kIxT (K := K)) (pe_ix (DL.kIxL (K := K)) (DL.kFld (K := K) (pv 0)) (pv 3) (fun _ _ => rfl)) pe_int (fun _ _ => rfl)) (pv 2) (nomark _))
     (pss_cons (ps_aug (i := 3) sc_Setting_line_of.nd rfl (by first | exact Or.inl rfl | exact Or.inr rfl) pe_int ip_add)
     pss_nil))
     (pss_cons (ps_while PassesOwn.never (PW.pt (pw_and (pt_cmpR op_lt (pe_op op_add (pv 3) pe_int) (pe_callB (DL.kLen (K := K)) (by rfl) z_len (by decide +kernel) (pa_cons (DL.kFld (K := K) (pv 0)) pa_nil)) (nomark _)) (pw_and1 (pt_cmpR op_le (pe_ix (DL.kIxT (K := K)) (pe_ix (DL.kIxL (K := K)) (DL.kFld (K := K) (pv 0)) (pe_op op_add (pv 3) pe_int) (fun _ _ => rfl)) pe_int (fun _ _ => rfl)) (pv 1) (nomark _)))))
     (pss_cons (ps_aug (i := 3) sc_Setting_line_of.nd rfl (by first | exact Or.inl rfl | exact Or.inr rfl) pe_int ip_add)
     pss_nil))
     (pss_cons (ps_ret (pv 3))
     pss_nil))))), ?_⟩)
  refine DL.run_spSD h fun N m ds d hR hq => ?_
  obtain ⟨l, s, ld, w, al, i, hok, hi, rfl, rfl, rfl⟩ := hR
  obtain ⟨h1, h2, hld, h5, h3, h6⟩ := id hok
  have hfew := lines_few l s w
  have hat := fun k (h : k < (lines l s w).length) => line_at h
  obtain ⟨_, n1, n2, n3, n4⟩ := lnI_ok l s w i hi
  have hmono := @starts_mono l s w
  refine gs_is (env' := [some (.ob C_Setting (setM l s ld w al)), some (.i (.int (i : Int))), none, none]) rfl rfl ?_
  have hmx : max (i : Int) 0 = (i : Int) := by omega
  refine' gs_asg (d := .int ((DL.bgn l i : Nat) : Int)) (EvX.is (ex_i2 (DL.ex_rfind (l := l) (i := i) rfl (DL.ex_fld (DL.eb_var rfl) kC_Setting n_Setting_string rfl) (ex_txt (l := [10]) (by decide +kernel)) ex_int (EvX.is (ex_max2 rfl (ex_var rfl) ex_int) (by rw [hmx])) hi) ex_int) (congrArg PyData.int (by omega))) ?_
  walk_at "nf"
  generalize lnI l s w i = N at *
  generalize DL.bgn l i = bg at *
  have gx : ∀ (c : Cn) (wb : Bool) (v1 v2 v3 : Option SV) (te : TE) (k : Nat), k < (lines l s w).length → c.K = K → (∀ wb, EvX wb c [some (.ob C_Setting (setM l s ld w al)), v1, v2, v3] [] te (.int (k : Int))) → EvX wb c [some (.ob C_Setting (setM l s ld w al)), v1, v2, v3] [] (tOp (rIxT c.K) (tOp (rIxL c.K) (tFld c.K (tVar 0) (Str.ofString "lines")) te) (tC (.int 0))) (.int ((lineAt l s w k).1 : Int)) := fun c wb v1 v2 v3 te k hk hK h => ex_ixT (ds := [.int ((lineAt l s w k).1 : Int), .int ((lineAt l s w k).2 : Int)]) (ex_ixLD (ds := (lines l s w).map dNN) (DL.ex_fld (DL.eb_var rfl) (hK ▸ kC_Setting) (hK ▸ n_Setting_lines) rfl) (h true) (atI_nat (by rw [List.getElem?_map, hat k hk]; rfl))) ex_int (atI_nat rfl)
  refine gs_asg (d := .int ((0 : Nat) : Int)) ex_int ?_
  walk_at "nf"
  refine' gs_while (S := Nat) (fun k => [some (.ob C_Setting (setM l s ld w al)), some (.i (.int (i : Int))), some (.i (.int (bg : Int))), some (.i (.int (k : Int)))]) (fun _ => []) (fun k => k ≤ N ∧ ∀ j, j < k → (lineAt l s w j).1 < bg) (fun k => decide ((lineAt l s w k).1 < bg)) (fun k => N - k) 0 (fun c' _ ad σ H ok => ok) ⟨Nat.zero_le _, fun j h => by omega⟩ (fun fr up k hk => ?t1) (fun fr up k hk hb => ?s1) (fun k hk hb => ?d1)
  case t1 =>
    exact EvT.is (et_test (ex_b2 (gx _ _ _ _ _ _ k (by omega) rfl (fun _ => ex_var rfl)) (ex_var rfl))) (decide_eq_decide.mpr (by omega))
  case s1 =>
    have hb : (lineAt l s w k).1 < bg := of_decide_eq_true hb
    have hlt : k < N := by
      by_cases e : k = N
      · subst e; omega
      · omega
    refine gs_aug (a := (k : Int)) (b := 1) rfl ex_int ?_
    walk_at "nf"
    refine g_next fun ad σ H ok => ⟨k + 1, ⟨by omega, fun j hj => ?_⟩, by omega, ad, ok⟩
    by_cases e : j = k
    · rw [e]; exact hb
    · exact hk.2 j (by omega)
  case d1 =>
  have hb : ¬ (lineAt l s w k).1 < bg := of_decide_eq_false hb
  obtain ⟨k1, k2⟩ := hk
  refine' gs_while (S := Nat) (fun j => [some (.ob C_Setting (setM l s ld w al)), some (.i (.int (i : Int))), some (.i (.int (bg : Int))), some (.i (.int (j : Int)))]) (fun _ => []) (fun j => k ≤ j ∧ j ≤ N) (fun j => decide (j < N)) (fun j => N - j) k (fun c' _ ad σ H ok => ok) ⟨Nat.le_refl _, k1⟩ (fun fr up j hj => ?t2) (fun fr up j hj hb => ?s2) (fun j hj hb => ?d2)
  case t2 =>
    obtain ⟨j1, j2⟩ := hj
    by_cases h : j + 1 < (lines l s w).length
    · refine EvT.is (et_and (a := true) (b := decide ((lineAt l s w (j + 1)).1 ≤ i)) (EvT.is (et_B (ex_b2 (ex_i2 (ex_var rfl) ex_int) (EvX.is (ex_lenK (EvX.it (DL.ex_fld (DL.eb_var rfl) kC_Setting n_Setting_lines rfl))) (show PyData.int _ = .int ((lines l s w).length : Int) by simp)))) (decide_eq_true (by omega))) (fun _ => EvT.is (et_B (ex_b2 (gx _ _ _ _ _ _ (j + 1) h rfl (fun _ => EvX.is (ex_i2 (ex_var rfl) ex_int) (by congr 1))) (ex_var rfl))) (decide_eq_decide.mpr (by omega)))) ?_
      rw [Bool.true_and]
      refine decide_eq_decide.mpr ⟨fun z => ?_, fun z => ?_⟩
      · by_cases e : j < N
        · exact e
        · have := n4 (j + 1) (by omega) h
          omega
      · have h6 : bg ≤ (lineAt l s w j).1 := by
          have := hmono (j - k) k (by omega)
          rw [show k + (j - k) = j by omega] at this
          omega
        have h7 := n3 j z h6
        have := hmono (N - (j + 1)) (j + 1) (by omega)
        rw [show j + 1 + (N - (j + 1)) = N by omega] at this
        omega
    · refine EvT.is (et_and (a := false) (b := false) (EvT.is (et_B (ex_b2 (ex_i2 (ex_var rfl) ex_int) (EvX.is (ex_lenK (EvX.it (DL.ex_fld (DL.eb_var rfl) kC_Setting n_Setting_lines rfl))) (show PyData.int _ = .int ((lines l s w).length : Int) by simp)))) (decide_eq_false (by omega))) (fun h => nomatch h)) ?_
      rw [decide_eq_false (show ¬ j < N by omega)]; rfl
  case s2 =>
    have hb : j < N := of_decide_eq_true hb
    refine gs_aug (a := (j : Int)) (b := 1) rfl ex_int ?_
    walk_at "nf"
    exact g_next fun ad σ H ok => ⟨j + 1, ⟨by omega, by omega⟩, by omega, ad, ok⟩
  case d2 =>
  have hb : ¬ j < N := of_decide_eq_false hb
  have e : j = N := by omega
  subst e
  exact gs_ret (ex_var rfl) hq
-- END Setting_line_of
abbrev s_Setting__top : Stmt := inClass (topS 15) 9
theorem sc_Setting__top : FnScope ["self", "number"] ["self", "number"] (defScope s_Setting__top) := ⟨rfl, rfl, rfl, by decide +kernel, rfl, by decide +kernel, by decide +kernel⟩
def R_Setting__top : List (Str × PyData) → List PyData → PyData → Prop := fun m ds d => ∃ (l : List Nat) (s ld w : Int) (al : List Nat) (k : Int), SetOk l s ld w al ∧ m = setM l s ld w al ∧ ds = [.int k] ∧ d = .int (k * (s + ld))
theorem R_Setting__top_i {l : List Nat} {s ld w : Int} {al : List Nat} {k : Int} (h : SetOk l s ld w al) : R_Setting__top (setM l s ld w al) [.int k] (.int (k * (s + ld))) := ⟨l, s, ld, w, al, k, h, rfl, rfl, rfl⟩
local macro_rules | `(tactic| walk_at "r2") => `(tactic| exact R_Setting__top_i (by assumption))
theorem R_Setting__top_len : ∀ m ds d, R_Setting__top m ds d → ds.length = 1 := by
  intro m ds d hh
  unfold R_Setting__top at hh
  repeat (obtain ⟨_, hh⟩ := hh)
  subst_eqs
  rfl
theorem ok_Setting__top {P : Program} {w : World} {K : PySem.W.Frag} {mg : Str → Option Value} {base : Heap} {f : Addr} {fd : FuncData} (F : DL.FnM K "_top" "Setting._top" s_Setting__top [] f fd) {C_Setting : Addr} (kC_Setting : Cls K C_Setting) (n_Setting_string : NoAttr K C_Setting "string") (n_Setting_size : NoAttr K C_Setting "size") (n_Setting_lead : NoAttr K C_Setting "lead") (n_Setting_width : NoAttr K C_Setting "width") (n_Setting_align : NoAttr K C_Setting "align") (n_Setting_lines : NoAttr K C_Setting "lines") (n_Setting___len__ : NoAttr K C_Setting "__len__") (n_Setting___length_hint__ : NoAttr K C_Setting "__length_hint__") (me : Meth K C_Setting "_top" f) : DL.MetP P w K mg base 1 C_Setting "_top" ["self", "number"] (DL.spSD K C_Setting R_Setting__top) := by
  refine DL.met_mk F sc_Setting__top kC_Setting me (DL.spSD_len R_Setting__top_len) (fun _ _ _ _ _ _ us hl => match us, hl with | [_, _], _ => rfl) (fun cdv A outer s H vs Q E hr h => ⟨_,
    (pss_cons (ps_ret (pe_op op_mul (pv 1) (pe_op op_add (DL.kFld (K := K) (pv 0)) (DL.kFld (K := K) (pv 0)))))
     pss_nil), ?_⟩)
  refine DL.run_spSD h fun N m ds d hR hq => ?_
  obtain ⟨l, s, ld, w, al, k, hok, rfl, rfl, rfl⟩ := hR
  obtain ⟨h1, h2, h7, h5, h3, h6⟩ := hok
  refine gs_is (env' := [some (.ob C_Setting (setM l s ld w al)), some (.i (.int k))]) rfl rfl ?_
  refine' gs_ret (ex_i2c (ex_var rfl) (ex_i2 (DL.ex_fld (DL.eb_var rfl) kC_Setting n_Setting_size rfl) (DL.ex_fld (DL.eb_var rfl) kC_Setting n_Setting_lead rfl)) ?c1) hq
  case c1 => walk_at "cc"
-- END Setting__top
abbrev s_Setting_caret : Stmt := inClass (topS 15) 7
theorem sc_Setting_caret : FnScope ["self", "index", "number", "start", "end", "on_line"] ["self", "index"] (defScope s_Setting_caret) := ⟨rfl, rfl, rfl, by decide +kernel, rfl, by decide +kernel, by decide +kernel⟩
/-- the caret of the index i -/
def carX (l : List Nat) (s w : Int) (al : List Nat) (i : Nat) : Int := posX s w al l (lineAt l s w (lnI l s w i)).1 (lineAt l s w (lnI l s w i)).2 (min (max i (lineAt l s w (lnI l s w i)).1) (lineAt l s w (lnI l s w i)).2)
def R_Setting_caret : List (Str × PyData) → List PyData → PyData → Prop := fun m ds d => ∃ (l : List Nat) (s ld w : Int) (al : List Nat) (i : Nat), SetOk l s ld w al ∧ i ≤ l.length ∧ m = setM l s ld w al ∧ ds = [.int (i : Int)] ∧ d = .tuple [.int (carX l s w al i), .int ((lnI l s w i : Int) * (s + ld))]
theorem R_Setting_caret_i {l : List Nat} {s ld w : Int} {al : List Nat} {i : Nat} (h : SetOk l s ld w al) (h2 : i ≤ l.length) : R_Setting_caret (setM l s ld w al) [.int (i : Int)] (.tuple [.int (carX l s w al i), .int ((lnI l s w i : Int) * (s + ld))]) := ⟨l, s, ld, w, al, i, h, h2, rfl, rfl, rfl⟩
local macro_rules | `(tactic| walk_at "r2") => `(tactic| exact R_Setting_caret_i (by assumption) (by assumption))
theorem R_Setting_caret_len : ∀ m ds d, R_Setting_caret m ds d → ds.length = 1 := by
  intro m ds d hh
  unfold R_Setting_caret at hh
  repeat (obtain ⟨_, hh⟩ := hh)
  subst_eqs
  rfl
theorem ok_Setting_caret {P : Program} {w : World} {K : PySem.W.Frag} {mg : Str → Option Value} {base : Heap} {f : Addr} {fd : FuncData} (F : DL.FnM K "caret" "Setting.caret" s_Setting_caret [] f fd) {C_Setting : Addr} (kC_Setting : Cls K C_Setting) (n_Setting_string : NoAttr K C_Setting "string") (n_Setting_size : NoAttr K C_Setting "size") (n_Setting_lead : NoAttr K C_Setting "lead") (n_Setting_width : NoAttr K C_Setting "width") (n_Setting_align : NoAttr K C_Setting "align") (n_Setting_lines : NoAttr K C_Setting "lines") (n_Setting___len__ : NoAttr K C_Setting "__len__") (n_Setting___length_hint__ : NoAttr K C_Setting "__length_hint__") (h_Setting_line_of : DL.MetP P w K mg base 1 C_Setting "line_of" ["self", "index"] (DL.spSD K C_Setting R_Setting_line_of)) (h_Setting__top : DL.MetP P w K mg base 1 C_Setting "_top" ["self", "number"] (DL.spSD K C_Setting R_Setting__top)) (h_Setting_places : DL.MetP P w K mg base 4 C_Setting "places" ["self", "number"] (DL.spSD K C_Setting R_Setting_places)) (z_min : mg "min" = none) (z_max : mg "max" = none) (me : Meth K C_Setting "caret" f) : DL.MetP P w K mg base 5 C_Setting "caret" ["self", "index"] (DL.spSD K C_Setting R_Setting_caret) := by
  refine DL.met_mk F sc_Setting_caret kC_Setting me (DL.spSD_len R_Setting_caret_len) (fun _ _ _ _ _ _ us hl => match us, hl with | [_, _], _ => rfl) (fun cdv A outer s H vs Q E hr h => ⟨_,
    (pss_cons (ps_set (i := 2) sc_Setting_caret.nd rfl (by first | exact Or.inl rfl | exact Or.inr rfl) (DL.pe_metP h_Setting_line_of hr (by decide) pass0 (pv 0) (pa_cons (pv 1) pa_nil)))
     (pss_cons (ps_asg (pe_ix (DL.kIxL (K := K)) (DL.kFld (K := K) (pv 0)) (pv 2) (fun _ _ => rfl)) (DL.kTup (K := K) (n := 2) rfl (pgs_cons (pg_name (i := 3) sc_Setting_caret.nd rfl (by first | exact Or.inl rfl | exact Or.inr rfl)) (pgs_cons (pg_name (i := 4) sc_Setting_caret.nd rfl (by first | exact Or.inl rfl | exact Or.inr rfl)) pgs_nil))))
     (pss_cons (ps_set (i := 5) sc_Setting_caret.nd rfl (by first | exact Or.inl rfl | exact Or.inr rfl) (pe_callB (call_min2 rfl) (by rfl) z_min (by decide +kernel) (pa_cons (pe_callB (call_max2 rfl) (by rfl) z_max (by decide +kernel) (pa_cons (pv 1) (pa_cons (pv 3) pa_nil))) (pa_cons (pv 4) pa_nil))))
     (pss_cons (ps_ret (pe_tup (pa_cons (pe_ix (DL.kIxL (K := K)) (DL.pe_metP h_Setting_places hr (by decide) pass0 (pv 0) (pa_cons (pv 2) pa_nil)) (pe_op op_sub (pv 5) (pv 3)) (fun _ _ => rfl)) (pa_cons (DL.pe_metP h_Setting__top hr (by decide) pass0 (pv 0) (pa_cons (pv 2) pa_nil)) pa_nil))))
     pss_nil)))), ?_⟩)
  refine DL.run_spSD h fun N m ds d hR hq => ?_
  obtain ⟨l, s, ld, w, al, i, hok, hi, rfl, rfl, rfl⟩ := hR
  obtain ⟨h1, h2, hld, h5, h3, h6⟩ := id hok
  obtain ⟨_, n1, n2, n3, n4⟩ := lnI_ok l s w i hi
  have hat := line_at n1
  have hpr := lines_pairs l s w _ (List.mem_of_getElem? hat)
  refine gs_is (env' := [some (.ob C_Setting (setM l s ld w al)), some (.i (.int (i : Int))), none, none, none, none]) rfl rfl ?_
  unfold carX at hq
  have hRl : R_Setting_line_of (setM l s ld w al) [.int (i : Int)] (.int ((lnI l s w i : Nat) : Int)) := R_Setting_line_of_i hok hi
  refine' gs_asg (d := .int ((lnI l s w i : Nat) : Int)) (DL.ex_meth (DL.eb_var rfl) rfl (ea_cons (ex_var rfl) ea_nil) hRl) ?_
  walk_at "nf"
  generalize lnI l s w i = N at *
  generalize lineAt l s w N = q at *
  obtain ⟨a, b⟩ := q
  have hab : a ≤ b := hpr.1
  have hbl : b ≤ l.length := hpr.2
  refine gs_asgT (d := dNN (a, b)) (ex_ixLD (ds := (lines l s w).map dNN) (DL.ex_fld (DL.eb_var rfl) kC_Setting n_Setting_lines rfl) (ex_var rfl) (atI_nat (by rw [List.getElem?_map, hat]; rfl))) (tg_tup (ds := [.int (a : Int), .int (b : Int)]) (tgs_cons tg_name (tgs_cons tg_name tgs_nil)) rfl) ?_
  walk_at "nf"
  obtain ⟨o, ho, ho1, ho2⟩ : ∃ o : Nat, min (max i a) b = o ∧ a ≤ o ∧ o ≤ b := ⟨_, rfl, by omega, by omega⟩
  have hq2 := posX_at (s := s) (w := w) (al := al) (l := l) (a := a) (b := b) (i := o) ho1 ho2 hbl
  simp only at hq
  rw [ho] at hq
  refine gs_asg (d := .int (o : Int)) (EvX.is (ex_min2 rfl (ex_max2 rfl (ex_var rfl) (ex_var rfl)) (ex_var rfl)) (by congr 1; omega)) ?_
  walk_at "nf"
  exact gs_ret (ex_tup (ea_cons (ex_ixLD (ds := (plM s w al l a b).map PyData.int) (DL.ex_meth (DL.eb_var rfl) rfl (ea_cons (ex_var rfl) ea_nil) (R_Setting_places_i hok hat hbl)) (ex_i2 (ex_var rfl) (ex_var rfl)) (atI_natE (k := o - a) (by omega) (by rw [List.getElem?_map, hq2]; rfl))) (ea_cons (DL.ex_meth (DL.eb_var rfl) rfl (ea_cons (ex_var rfl) ea_nil) (R_Setting__top_i hok)) ea_nil)) (Nat.le_of_ble_eq_true rfl)) hq
-- END Setting_caret
abbrev s_Setting_index_near : Stmt := inClass (topS 15) 8
theorem sc_Setting_index_near : FnScope ["self", "x", "y", "number", "places", "best", "index", "place"] ["self", "x", "y"] (defScope s_Setting_index_near) := ⟨rfl, rfl, rfl, by decide +kernel, rfl, by decide +kernel, by decide +kernel⟩
def nearS (ps : List Int) (x : Int) (b i : Nat) : Nat := if absI (ps.getD i 0 - x) < absI (ps.getD b 0 - x) then i else b
def nearN (ps : List Int) (x : Int) : Nat → Nat
  | 0 => 0
  | n + 1 => nearS ps x (nearN ps x n) n
def nearM (ps : List Int) (x : Int) : Nat := nearN ps x ps.length
theorem nearN_lt (ps : List Int) (x : Int) : ∀ n, nearN ps x n ≤ n - 1
  | 0 => Nat.le_refl _
  | n + 1 => by
    have h := nearN_lt ps x n
    show nearS ps x (nearN ps x n) n ≤ n
    unfold nearS
    split <;> omega
theorem nearN_min (ps : List Int) (x : Int) : ∀ n j, j < n → absI (ps.getD (nearN ps x n) 0 - x) ≤ absI (ps.getD j 0 - x) ∧ (j < nearN ps x n → absI (ps.getD (nearN ps x n) 0 - x) < absI (ps.getD j 0 - x)) := by
  intro n
  induction n with
  | zero => intro j h; omega
  | succ n ih =>
    intro j h
    have hlt := nearN_lt ps x n
    rw [show nearN ps x (n + 1) = nearS ps x (nearN ps x n) n from rfl]
    unfold nearS
    split
    · rename_i hc
      by_cases e : j = n
      · subst e; exact ⟨Int.le_refl _, fun z => by omega⟩
      · obtain ⟨h1, h2⟩ := ih j (by omega)
        exact ⟨by omega, fun _ => by omega⟩
    · rename_i hc
      by_cases e : j = n
      · subst e; exact ⟨by omega, fun z => by omega⟩
      · exact ih j (by omega)
/-- y // h, kept among n lines -/
def lnoM (y h : Int) (n : Nat) : Nat := min (max (y / h) 0).toNat (n - 1)
def R_Setting_index_near : List (Str × PyData) → List PyData → PyData → Prop := fun m ds d => ∃ (l : List Nat) (s ld w : Int) (al : List Nat) (x y : Int) (a b : Nat), SetOk l s ld w al ∧ (lines l s w)[lnoM y (s + ld) (lines l s w).length]? = some (a, b) ∧ b ≤ l.length ∧ a ≤ b ∧ m = setM l s ld w al ∧ ds = [.int x, .int y] ∧ d = .int ((a : Int) + (nearM (plM s w al l a b) x : Int))
theorem R_Setting_index_near_i {l : List Nat} {s ld w : Int} {al : List Nat} {x y : Int} {a b : Nat} (h : SetOk l s ld w al) (h2 : (lines l s w)[lnoM y (s + ld) (lines l s w).length]? = some (a, b)) (h3 : b ≤ l.length) (h4 : a ≤ b) : R_Setting_index_near (setM l s ld w al) [.int x, .int y] (.int ((a : Int) + (nearM (plM s w al l a b) x : Int))) := ⟨l, s, ld, w, al, x, y, a, b, h, h2, h3, h4, rfl, rfl, rfl⟩
local macro_rules | `(tactic| walk_at "r2") => `(tactic| exact R_Setting_index_near_i (by assumption) (by assumption) (by assumption) (by assumption))
theorem R_Setting_index_near_len : ∀ m ds d, R_Setting_index_near m ds d → ds.length = 2 := by
  intro m ds d hh
  unfold R_Setting_index_near at hh
  repeat (obtain ⟨_, hh⟩ := hh)
  subst_eqs
  rfl
theorem ok_Setting_index_near {P : Program} {w : World} {K : PySem.W.Frag} {mg : Str → Option Value} {base : Heap} {f : Addr} {fd : FuncData} (F : DL.FnM K "index_near" "Setting.index_near" s_Setting_index_near [] f fd) {C_Setting : Addr} (kC_Setting : Cls K C_Setting) (n_Setting_string : NoAttr K C_Setting "string") (n_Setting_size : NoAttr K C_Setting "size") (n_Setting_lead : NoAttr K C_Setting "lead") (n_Setting_width : NoAttr K C_Setting "width") (n_Setting_align : NoAttr K C_Setting "align") (n_Setting_lines : NoAttr K C_Setting "lines") (n_Setting___len__ : NoAttr K C_Setting "__len__") (n_Setting___length_hint__ : NoAttr K C_Setting "__length_hint__") (h_Setting_places : DL.MetP P w K mg base 4 C_Setting "places" ["self", "number"] (DL.spSD K C_Setting R_Setting_places)) (z_max : mg "max" = none) (z_min : mg "min" = none) (z_len : mg "len" = none) (z_enumerate : mg "enumerate" = none) (z_abs : mg "abs" = none) (me : Meth K C_Setting "index_near" f) : DL.MetP P w K mg base 5 C_Setting "index_near" ["self", "x", "y"] (DL.spSD K C_Setting R_Setting_index_near) := by
  refine DL.met_mk F sc_Setting_index_near kC_Setting me (DL.spSD_len R_Setting_index_near_len) (fun _ _ _ _ _ _ us hl => match us, hl with | [_, _, _], _ => rfl) (fun cdv A outer s H vs Q E hr h => ⟨_,
    (pss_cons (ps_set (i := 3) sc_Setting_index_near.nd rfl (by first | exact Or.inl rfl | exact Or.inr rfl) (pe_op op_fdiv (pv 2) (pe_callB (call_max2 rfl) (by rfl) z_max (by decide +kernel) (pa_cons pe_int (pa_cons (pe_op op_add (DL.kFld (K := K) (pv 0)) (DL.kFld (K := K) (pv 0))) pa_nil)))))
     (pss_cons (ps_set (i := 3) sc_Setting_index_near.nd rfl (by first | exact Or.inl rfl | exact Or.inr rfl) (pe_callB (call_min2 rfl) (by rfl) z_min (by decide +kernel) (pa_cons (pe_callB (call_max2 rfl) (by rfl) z_max (by decide +kernel) (pa_cons (pv 3) (pa_cons pe_int pa_nil))) (pa_cons (pe_op op_sub (pe_callB (DL.kLen (K := K)) (by rfl) z_len (by decide +kernel) (pa_cons (DL.kFld (K := K) (pv 0)) pa_nil)) pe_int) pa_nil))))
     (pss_cons (ps_set (i := 4) sc_Setting_index_near.nd rfl (by first | exact Or.inl rfl | exact Or.inr rfl) (DL.pe_metP h_Setting_places hr (by decide) pass0 (pv 0) (pa_cons (pv 3) pa_nil)))
     (pss_cons (ps_set (i := 5) sc_Setting_index_near.nd rfl (by first | exact Or.inl rfl | exact Or.inr rfl) pe_int)
     (pss_cons (ps_for PassesOwn.never rfl (DL.kEnum (K := K) (by rfl) z_enumerate (pa_cons (pv 4) pa_nil)) (DL.kTup (K := K) (n := 2) rfl (pgs_cons (pg_name (i := 6) sc_Setting_index_near.nd rfl (by first | exact Or.inl rfl | exact Or.inr rfl)) (pgs_cons (pg_name (i := 7) sc_Setting_index_near.nd rfl (by first | exact Or.inl rfl | exact Or.inr rfl)) pgs_nil)))
     (pss_cons (ps_if (pt_cmpR op_lt (pe_callB call_abs (by rfl) z_abs (by decide +kernel) (pa_cons (pe_op op_sub (pv 7) (pv 1)) pa_nil)) (pe_callB call_abs (by rfl) z_abs (by decide +kernel) (pa_cons (pe_op op_sub (pe_ix (DL.kIxL (K := K)) (pv 4) (pv 5) (fun _ _ => rfl)) (pv 1)) pa_nil)) (nomark _))
     (pss_cons (ps_set (i := 5) sc_Setting_index_near.nd rfl (by first | exact Or.inl rfl | exact Or.inr rfl) (pv 6))
     pss_nil)
     pss_nil)
     pss_nil))
     (pss_cons (ps_ret (pe_op op_add (pe_ix (DL.kIxT (K := K)) (pe_ix (DL.kIxL (K := K)) (DL.kFld (K := K) (pv 0)) (pv 3) (fun _ _ => rfl)) pe_int (fun _ _ => rfl)) (pv 5)))
     pss_nil)))))), ?_⟩)
  refine DL.run_spSD h fun N m ds d hR hq => ?_
  obtain ⟨l, s, ld, w, al, x, y, a, b, hok, hk, hb, hab, rfl, rfl, rfl⟩ := hR
  obtain ⟨h1, h2, hld, h5, h3, h6⟩ := id hok
  have hfew := lines_few l s w
  have hlen : 0 < (lines l s w).length := by
    obtain ⟨z, _⟩ := List.getElem?_eq_some_iff.mp hk
    omega
  refine gs_is (env' := [some (.ob C_Setting (setM l s ld w al)), some (.i (.int x)), some (.i (.int y)), none, none, none, none, none]) rfl rfl ?_
  have hmx : max 1 (s + ld) = s + ld := by omega
  refine' gs_asg (d := .int (y / (s + ld))) (EvX.is (ex_i2c (ex_var rfl) (ex_max2 rfl ex_int (ex_i2 (DL.ex_fld (DL.eb_var rfl) kC_Setting n_Setting_size rfl) (DL.ex_fld (DL.eb_var rfl) kC_Setting n_Setting_lead rfl))) ?a1) (by rw [hmx])) ?_
  case a1 => rw [hmx]; exact ⟨by omega, by omega⟩
  walk_at "nf"
  refine' gs_asg (d := .int ((lnoM y (s + ld) (lines l s w).length : Nat) : Int)) (EvX.is (ex_min2 rfl (ex_max2 rfl (ex_var rfl) ex_int) (ex_i2 (i := ((lines l s w).length : Int)) (EvX.is (ex_lenK (EvX.it (DL.ex_fld (DL.eb_var rfl) kC_Setting n_Setting_lines rfl))) (by simp)) ex_int)) ?a2) ?_
  case a2 => unfold lnoM; congr 1; omega
  walk_at "nf"
  generalize lnoM y (s + ld) (lines l s w).length = k at *
  refine' gs_asg (d := .list ((plM s w al l a b).map PyData.int)) (DL.ex_meth (DL.eb_var rfl) rfl (ea_cons (ex_var rfl) ea_nil) (R_Setting_places_i hok hk hb)) ?_
  walk_at "nf"
  have hpl : (plM s w al l a b).length ≤ 40000 := by
    have hp : ((l.drop a).take (b - a)).length ≤ 30000 := by rw [List.length_take, List.length_drop]; omega
    unfold plM fullM placesM
    split
    · split
      · rw [fullP_len]; omega
      · rw [fullP_len]; omega
    · rw [List.length_map, offs_len]; omega
  unfold nearM at hq
  generalize plM s w al l a b = ps at *
  refine gs_asg (d := .int ((nearN ps x 0 : Nat) : Int)) (EvX.is ex_int rfl) ?_
  walk_at "nf"
  refine' gs_for (n := ps.length) (fun i => [some (.ob C_Setting (setM l s ld w al)), some (.i (.int x)), some (.i (.int y)), some (.i (.int (k : Int))), some (.i (.list (ps.map PyData.int))), some (.i (.int ((nearN ps x i : Nat) : Int))), none, none]) (fun _ => []) (EvW.is (ew_enum (ds := ps.map PyData.int) (ex_var rfl)) (by simp)) (fun c' _ ad σ H ok => ok) (fun _ _ => True.intro) (fun fr up i hi => ⟨_, _, tg_tup (ds := [.int (i : Int), (ps.map PyData.int).getD i .none]) (tgs_cons tg_name (tgs_cons tg_name tgs_nil)) rfl, ?b2⟩) ?b3
  case b2 =>
    walk_at "nf"
    have hgd : (ps.map PyData.int).getD i .none = .int (ps.getD i 0) := by
      rw [List.getD_eq_getElem?_getD, List.getElem?_map, List.getD_eq_getElem?_getD, List.getElem?_eq_getElem hi]
      rfl
    rw [hgd]
    have hbl := nearN_lt ps x i
    have hbe : ps[nearN ps x i]? = some (ps.getD (nearN ps x i) 0) := by
      rw [List.getD_eq_getElem?_getD, List.getElem?_eq_getElem (by omega)]; rfl
    have hst : nearN ps x (i + 1) = if absI (ps.getD i 0 - x) < absI (ps.getD (nearN ps x i) 0 - x) then i else nearN ps x i := rfl
    refine' gs_if (b := decide (absI (ps.getD i 0 - x) < absI (ps.getD (nearN ps x i) 0 - x))) (EvT.is (et_test (ex_b2 (DL.ex_abs rfl (ex_i2 (ex_var rfl) (ex_var rfl))) (DL.ex_abs rfl (ex_i2 (ex_ixLD (ds := ps.map PyData.int) (d := .int (ps.getD (nearN ps x i) 0)) (ex_var rfl) (ex_var rfl) (atI_nat ?c1)) (ex_var rfl))))) rfl) (fun hb => ?c2) (fun hb => ?c3)
    case c1 => rw [List.getElem?_map, hbe]; rfl
    case c2 =>
      rw [if_pos (of_decide_eq_true hb)] at hst
      rw [hst]
      refine gs_asg (d := .int (i : Int)) (ex_var rfl) ?_
      walk_at "nf"
      refine g_nextU ?_
      walk_at "wk"
    case c3 =>
      rw [if_neg (of_decide_eq_false hb)] at hst
      rw [hst]
      refine g_nextU ?_
      walk_at "wk"
  case b3 =>
    exact gs_ret (ex_i2 (ex_ixT (ds := [.int (a : Int), .int (b : Int)]) (ex_ixLD (ds := (lines l s w).map dNN) (DL.ex_fld (DL.eb_var rfl) kC_Setting n_Setting_lines rfl) (ex_var rfl) (atI_nat (by rw [List.getElem?_map, hk]; rfl))) ex_int (atI_nat rfl)) (ex_var rfl)) hq
-- END Setting_index_near
abbrev s__law_cell : Stmt := topS 17
theorem sc__law_cell : FnScope ["script", "k"] ["script", "k"] (defScope s__law_cell) := ⟨rfl, rfl, rfl, by decide +kernel, rfl, by decide +kernel, by decide +kernel⟩
abbrev dI (ns : List Int) : PyData := .list (ns.map PyData.int)
def R__law_cell : List PyData → PyData → Prop := fun ds d => ∃ (ns : List Int) (k : Nat), ds = [dI ns, .int (k : Int)] ∧ d = .int (ns.getD k 0)
theorem R__law_cell_i {ns : List Int} (k : Nat) : R__law_cell [dI ns, .int (k : Int)] (.int (ns.getD k 0)) := ⟨ns, k, rfl, rfl⟩
local macro_rules | `(tactic| walk_at "r2") => `(tactic| first | exact R__law_cell_i 0 | exact R__law_cell_i 1 | exact R__law_cell_i 2 | exact R__law_cell_i 3 | exact R__law_cell_i _)
theorem R__law_cell_len : ∀ ds d, R__law_cell ds d → ds.length = 2 := by
  intro ds d hh
  unfold R__law_cell at hh
  repeat (obtain ⟨_, hh⟩ := hh)
  subst_eqs
  rfl
theorem ok__law_cell {P : Program} {w : World} {K : PySem.W.Frag} {mg : Str → Option Value} {base : Heap} {f : Addr} {fd : FuncData} (F : FnP K "_law_cell" s__law_cell f fd) (g0 : mg "_law_cell" = some (.ref f)) (z_len : mg "len" = none) : Cal P w K mg base 1 "_law_cell" ["script", "k"] (spD K  R__law_cell) := by
  refine cal_mk F sc__law_cell g0 (spD_len R__law_cell_len) (fun _ _ _ _ _ _ us hl => match us, hl with | [_, _], _ => rfl) (fun cdv A outer s H vs Q E hr h => ⟨_,
    (pss_cons (ps_if (pt_cmpR op_lt (pv 1) (pe_callB (DL.kLen (K := K)) (by rfl) z_len (by decide +kernel) (pa_cons (pv 0) pa_nil)) (nomark _))
     (pss_cons (ps_ret (pe_ix (DL.kIxL (K := K)) (pv 0) (pv 1) (fun _ _ => rfl)))
     pss_nil)
     pss_nil)
     (pss_cons (ps_ret pe_int)
     pss_nil)), ?_⟩)
  refine run_spD h fun N ds d hR hq => ?_
  obtain ⟨ns, k, rfl, rfl⟩ := hR
  walk_at "env"
  refine' gs_if ?t1 ?a1 ?b1
  case t1 => walk_at "t"
  case a1 =>
    intro hb
    have hk : k < ns.length := by simpa using hb
    refine' gs_ret ?r1 (by assumption)
    refine' ex_ixLD ?va ?vb ?vc
    case va => walk_at "v"
    case vb => walk_at "v"
    case vc => exact atI_nat (by rw [List.getElem?_map, List.getD_eq_getElem?_getD, List.getElem?_eq_getElem hk]; rfl)
  case b1 =>
    intro hb
    have hk : ¬ k < ns.length := by simpa using hb
    refine g_nextU ?_
    have e : ns.getD k 0 = 0 := by rw [List.getD_eq_getElem?_getD, List.getElem?_eq_none (by omega)]; rfl
    rw [e] at hq
    walk_at "ret"
-- END _law_cell
abbrev s__law_mixed : Stmt := topS 18
theorem sc__law_mixed : FnScope ["cell", "once", "twice"] ["cell"] (defScope s__law_mixed) := ⟨rfl, rfl, rfl, by decide +kernel, rfl, by decide +kernel, by decide +kernel⟩
def mixA (c : Int) : Int := (c * 48271 + 12345) % 2147483647
def mixB (a : Int) : Int := (a * a + 7 * a + 3) % 2305843009213693951
def mixed (c : Int) : Int := (mixB (mixA c) * 16807 + 11) % 2305843009213693951
theorem mixed_nn (c : Int) : 0 ≤ mixed c := Int.emod_nonneg _ (by decide)
def R__law_mixed : List PyData → PyData → Prop := fun ds d => ∃ c, ds = [.int c] ∧ d = .int (mixed c)
theorem R__law_mixed_i {c : Int} : R__law_mixed [.int c] (.int (mixed c)) := ⟨c, rfl, rfl⟩
local macro_rules | `(tactic| walk_at "r2") => `(tactic| exact R__law_mixed_i)
theorem R__law_mixed_len : ∀ ds d, R__law_mixed ds d → ds.length = 1 := by
  intro ds d hh
  unfold R__law_mixed at hh
  repeat (obtain ⟨_, hh⟩ := hh)
  subst_eqs
  rfl
theorem ok__law_mixed {P : Program} {w : World} {K : PySem.W.Frag} {mg : Str → Option Value} {base : Heap} {f : Addr} {fd : FuncData} (F : FnP K "_law_mixed" s__law_mixed f fd) (g0 : mg "_law_mixed" = some (.ref f)) (z_int : mg "int" = none) : Cal P w K mg base 1 "_law_mixed" ["cell"] (spD K  R__law_mixed) := by
  refine cal_mk F sc__law_mixed g0 (spD_len R__law_mixed_len) (fun _ _ _ _ _ _ us hl => match us, hl with | [_], _ => rfl) (fun cdv A outer s H vs Q E hr h => ⟨_,
    (pss_cons (ps_set (i := 1) sc__law_mixed.nd rfl (by first | exact Or.inl rfl | exact Or.inr rfl) (pe_op op_mod (pe_callTy call_int1 (by rfl) z_int (by decide +kernel) (pa_cons (pe_op op_add (pe_op op_mul (pv 0) pe_int) pe_int) pa_nil)) pe_int))
     (pss_cons (ps_set (i := 2) sc__law_mixed.nd rfl (by first | exact Or.inl rfl | exact Or.inr rfl) (pe_op op_mod (pe_callTy call_int1 (by rfl) z_int (by decide +kernel) (pa_cons (pe_op op_add (pe_op op_add (pe_op op_mul (pv 1) (pv 1)) (pe_op op_mul pe_int (pv 1))) pe_int) pa_nil)) pe_int))
     (pss_cons (ps_ret (pe_op op_mod (pe_callTy call_int1 (by rfl) z_int (by decide +kernel) (pa_cons (pe_op op_add (pe_op op_mul (pv 2) pe_int) pe_int) pa_nil)) pe_int))
     pss_nil))), ?_⟩)
  refine run_spD h fun N ds d hR hq => ?_
  obtain ⟨c, rfl, rfl⟩ := hR
  walk_at "env"
  refine' gs_asg (d := .int (mixA c)) ?va ?_
  case va => walk_at "v"
  walk_at "nf"
  have h1 : 0 ≤ mixA c := Int.emod_nonneg _ (by decide)
  have h2 : mixA c < 2147483647 := Int.emod_lt_of_pos _ (by decide)
  refine' gs_asg (d := .int (mixB (mixA c))) ?vb ?_
  case vb => walk_at "v"
  walk_at "nf"
  walk_at "ret"
-- END _law_mixed
abbrev s__law_source : Stmt := topS 19
theorem sc__law_source : FnScope ["cell"] ["cell"] (defScope s__law_source) := ⟨rfl, rfl, rfl, by decide +kernel, rfl, by decide +kernel, by decide +kernel⟩
def source (c : Int) : Int := if 10 ^ 18 ≤ c then c - 10 ^ 18 else mixed c
theorem source_nn (c : Int) : 0 ≤ source c := by
  unfold source
  split
  · omega
  · exact mixed_nn c
def R__law_source : List PyData → PyData → Prop := fun ds d => ∃ c, ds = [.int c] ∧ d = .int (source c)
theorem R__law_source_i {c : Int} : R__law_source [.int c] (.int (source c)) := ⟨c, rfl, rfl⟩
local macro_rules | `(tactic| walk_at "r2") => `(tactic| exact R__law_source_i)
theorem R__law_source_len : ∀ ds d, R__law_source ds d → ds.length = 1 := by
  intro ds d hh
  unfold R__law_source at hh
  repeat (obtain ⟨_, hh⟩ := hh)
  subst_eqs
  rfl
theorem ok__law_source {P : Program} {w : World} {K : PySem.W.Frag} {mg : Str → Option Value} {base : Heap} {f : Addr} {fd : FuncData} (F : FnP K "_law_source" s__law_source f fd) (g0 : mg "_law_source" = some (.ref f)) (h__law_mixed : Cal P w K mg base 1 "_law_mixed" ["cell"] (spD K  R__law_mixed)) : Cal P w K mg base 2 "_law_source" ["cell"] (spD K  R__law_source) := by
  refine cal_mk F sc__law_source g0 (spD_len R__law_source_len) (fun _ _ _ _ _ _ us hl => match us, hl with | [_], _ => rfl) (fun cdv A outer s H vs Q E hr h => ⟨_,
    (pss_cons (ps_if (pt_cmpR op_ge (pv 0) (pe_op op_pow pe_int pe_int) (nomark _))
     (pss_cons (ps_ret (pe_op op_sub (pv 0) (pe_op op_pow pe_int pe_int)))
     pss_nil)
     pss_nil)
     (pss_cons (ps_ret (DL.pe_cal h__law_mixed hr (by decide) (by rfl) pass0 (pa_cons (pv 0) pa_nil)))
     pss_nil)), ?_⟩)
  refine run_spD h fun N ds d hR hq => ?_
  obtain ⟨c, rfl, rfl⟩ := hR
  walk_at "env"
  refine' gs_if ?t1 ?a1 ?b1
  case t1 => walk_at "t"
  case a1 =>
    intro hb
    have hb' : 10 ^ 18 ≤ c := by simpa using hb
    rw [show source c = c - 10 ^ 18 by unfold source; rw [if_pos hb']] at hq
    walk_at "ret"
  case b1 =>
    intro hb
    have hb' : ¬ 10 ^ 18 ≤ c := by simpa using hb
    rw [show source c = mixed c by unfold source; rw [if_neg hb']] at hq
    refine g_nextU ?_
    walk_at "ret"
-- END _law_source
abbrev s__law_chars : Stmt := topS 20
theorem sc__law_chars : FnScope ["chars"] [] (defScope s__law_chars) := ⟨rfl, rfl, rfl, by decide +kernel, rfl, by decide +kernel, by decide +kernel⟩
def CH1 : List Nat := [32, 33, 34, 35, 36, 38, 39, 40, 41, 42, 43, 44, 45, 46, 47, 48, 49, 50, 51, 52, 53, 54, 55, 56, 57, 58, 59, 60, 61, 62, 63, 64, 65, 66, 67, 68, 69, 70, 71, 72, 73, 74, 75, 76, 77, 78, 79, 80, 81, 82, 83, 84, 85, 86, 87, 88, 89, 90, 91, 92, 93, 94, 95, 96]
def CH2 : List Nat := [97, 98, 99, 100, 101, 102, 103, 104, 105, 106, 107, 108, 109, 110, 111, 112, 113, 114, 115, 116, 117, 118, 119, 120, 121, 122, 123, 124, 125, 126, 10]
def CH : List Nat := CH1 ++ CH2
theorem CH_len : CH.length = 95 := by decide
def R__law_chars : List PyData → PyData → Prop := fun ds d => ds = [] ∧ d = dT CH
theorem R__law_chars_i : R__law_chars [] (dT CH) := ⟨rfl, rfl⟩
local macro_rules | `(tactic| walk_at "r2") => `(tactic| exact R__law_chars_i)
theorem R__law_chars_len : ∀ ds d, R__law_chars ds d → ds.length = 0 := by
  intro ds d hh
  unfold R__law_chars at hh
  repeat (obtain ⟨_, hh⟩ := hh)
  subst_eqs
  rfl
theorem ok__law_chars {P : Program} {w : World} {K : PySem.W.Frag} {mg : Str → Option Value} {base : Heap} {f : Addr} {fd : FuncData} (F : FnP K "_law_chars" s__law_chars f fd) (g0 : mg "_law_chars" = some (.ref f)) : Cal P w K mg base 1 "_law_chars" [] (spD K  R__law_chars) := by
  refine cal_mk F sc__law_chars g0 (spD_len R__law_chars_len) (fun _ _ _ _ _ _ us hl => match us, hl with | [], _ => rfl) (fun cdv A outer s H vs Q E hr h => ⟨_,
    (pss_cons (ps_set (i := 0) sc__law_chars.nd rfl (by first | exact Or.inl rfl | exact Or.inr rfl) pe_str)
     (pss_cons (ps_ret (pe_op op_add_str (pv 0) pe_str))
     pss_nil)), ?_⟩)
  refine run_spD h fun N ds d hR hq => ?_
  obtain ⟨rfl, rfl⟩ := hR
  walk_at "env"
  refine gs_asg (d := dT CH1) (ex_txt (by decide +kernel)) ?_
  walk_at "nf"
  refine gs_ret (ex_catS rfl (ex_var rfl) (ex_txt (l := CH2) (by decide +kernel)) (Nat.le_of_ble_eq_true rfl)) hq
-- END _law_chars
abbrev s__law_piece : Stmt := topS 21
theorem sc__law_piece : FnScope ["cell", "chars", "piece", "number", "k", "kind", "many"] ["cell"] (defScope s__law_piece) := ⟨rfl, rfl, rfl, by decide +kernel, rfl, by decide +kernel, by decide +kernel⟩
def nIt (b n : Int) : Nat → Int
  | 0 => n
  | i + 1 => nIt b n i / b
def pkL (o m b n : Int) : Nat → List Nat
  | 0 => []
  | i + 1 => pkL o m b n i ++ [CH.getD (o + nIt b n i % m).toNat 0]
theorem pkL_len (o m b n : Int) : ∀ i, (pkL o m b n i).length = i
  | 0 => rfl
  | i + 1 => by unfold pkL; rw [List.length_append, pkL_len o m b n i]; rfl
def pieceOf (c : Int) : List Nat :=
  if 10 ^ 18 ≤ c then pkL 0 95 95 ((c - 10 ^ 18) / 8) ((c - 10 ^ 18) % 8).toNat
  else if mixed c % 8 = 0 then [10]
  else if mixed c % 8 < 3 then List.replicate (1 + mixed c / 8 % 3).toNat 32
  else pkL 1 93 93 (mixed c / 8 / 6) (1 + mixed c / 8 % 6).toNat
theorem pieceOf_len (c : Int) : (pieceOf c).length ≤ 7 := by
  unfold pieceOf
  split
  · rw [pkL_len]
    have : (c - 10 ^ 18) % 8 < 8 := Int.emod_lt_of_pos _ (by decide)
    omega
  · split
    · decide
    · split
      · rw [List.length_replicate]
        have : mixed c / 8 % 3 < 3 := Int.emod_lt_of_pos _ (by decide)
        omega
      · rw [pkL_len]
        have : mixed c / 8 % 6 < 6 := Int.emod_lt_of_pos _ (by decide)
        omega
theorem rep_one (n x : Nat) : (List.replicate n [x]).flatten = List.replicate n x := by
  induction n with
  | zero => rfl
  | succ n ih => rw [List.replicate_succ, List.flatten_cons, ih]; rfl
def R__law_piece : List PyData → PyData → Prop := fun ds d => ∃ c, ds = [.int c] ∧ d = dT (pieceOf c)
theorem R__law_piece_i {c : Int} : R__law_piece [.int c] (dT (pieceOf c)) := ⟨c, rfl, rfl⟩
local macro_rules | `(tactic| walk_at "r2") => `(tactic| exact R__law_piece_i)
theorem R__law_piece_len : ∀ ds d, R__law_piece ds d → ds.length = 1 := by
  intro ds d hh
  unfold R__law_piece at hh
  repeat (obtain ⟨_, hh⟩ := hh)
  subst_eqs
  rfl
theorem ok__law_piece {P : Program} {w : World} {K : PySem.W.Frag} {mg : Str → Option Value} {base : Heap} {f : Addr} {fd : FuncData} (F : FnP K "_law_piece" s__law_piece f fd) (g0 : mg "_law_piece" = some (.ref f)) (h__law_chars : Cal P w K mg base 1 "_law_chars" [] (spD K  R__law_chars)) (h__law_mixed : Cal P w K mg base 1 "_law_mixed" ["cell"] (spD K  R__law_mixed)) (z_range : mg "range" = none) (z_int : mg "int" = none) : Cal P w K mg base 2 "_law_piece" ["cell"] (spD K  R__law_piece) := by
  refine cal_mk F sc__law_piece g0 (spD_len R__law_piece_len) (fun _ _ _ _ _ _ us hl => match us, hl with | [_], _ => rfl) (fun cdv A outer s H vs Q E hr h => ⟨_,
    (pss_cons (ps_set (i := 1) sc__law_piece.nd rfl (by first | exact Or.inl rfl | exact Or.inr rfl) (DL.pe_cal0 h__law_chars hr (by decide) (by rfl) pass0))
     (pss_cons (ps_set (i := 2) sc__law_piece.nd rfl (by first | exact Or.inl rfl | exact Or.inr rfl) pe_str)
     (pss_cons (ps_if (pt_cmpR op_ge (pv 0) (pe_op op_pow pe_int pe_int) (nomark _))
     (pss_cons (ps_set (i := 3) sc__law_piece.nd rfl (by first | exact Or.inl rfl | exact Or.inr rfl) (pe_op op_fdiv (pe_op op_sub (pv 0) (pe_op op_pow pe_int pe_int)) pe_int))
     (pss_cons (ps_for PassesOwn.never rfl (pi_range1 (by rfl) z_range (pa_cons (pe_op op_mod (pe_callTy call_int1 (by rfl) z_int (by decide +kernel) (pa_cons (pe_op op_sub (pv 0) (pe_op op_pow pe_int pe_int)) pa_nil)) pe_int) pa_nil)) (pg_name (i := 4) sc__law_piece.nd rfl (by first | exact Or.inl rfl | exact Or.inr rfl))
     (pss_cons (ps_set (i := 2) sc__law_piece.nd rfl (by first | exact Or.inl rfl | exact Or.inr rfl) (pe_op op_add_str (pv 2) (pe_ix ix_str (pv 1) (pe_op op_mod (pe_callTy call_int1 (by rfl) z_int (by decide +kernel) (pa_cons (pv 3) pa_nil)) pe_int) (fun _ _ => rfl))))
     (pss_cons (ps_set (i := 3) sc__law_piece.nd rfl (by first | exact Or.inl rfl | exact Or.inr rfl) (pe_op op_fdiv (pv 3) pe_int))
     pss_nil)))
     (pss_cons (ps_ret (pv 2))
     pss_nil)))
     pss_nil)
     (pss_cons (ps_set (i := 3) sc__law_piece.nd rfl (by first | exact Or.inl rfl | exact Or.inr rfl) (DL.pe_cal h__law_mixed hr (by decide) (by rfl) pass0 (pa_cons (pv 0) pa_nil)))
     (pss_cons (ps_set (i := 5) sc__law_piece.nd rfl (by first | exact Or.inl rfl | exact Or.inr rfl) (pe_op op_mod (pe_callTy call_int1 (by rfl) z_int (by decide +kernel) (pa_cons (pv 3) pa_nil)) pe_int))
     (pss_cons (ps_if (pt_cmpR op_eq (pv 5) pe_int (nomark _))
     (pss_cons (ps_ret pe_str)
     pss_nil)
     pss_nil)
     (pss_cons (ps_set (i := 3) sc__law_piece.nd rfl (by first | exact Or.inl rfl | exact Or.inr rfl) (pe_op op_fdiv (pv 3) pe_int))
     (pss_cons (ps_if (pt_cmpR op_lt (pv 5) pe_int (nomark _))
     (pss_cons (ps_ret (pe_op DL.op_mulS pe_str (pe_op op_add pe_int (pe_op op_mod (pe_callTy call_int1 (by rfl) z_int (by decide +kernel) (pa_cons (pv 3) pa_nil)) pe_int))))
     pss_nil)
     pss_nil)
     (pss_cons (ps_set (i := 6) sc__law_piece.nd rfl (by first | exact Or.inl rfl | exact Or.inr rfl) (pe_op op_add pe_int (pe_op op_mod (pe_callTy call_int1 (by rfl) z_int (by decide +kernel) (pa_cons (pv 3) pa_nil)) pe_int)))
     (pss_cons (ps_set (i := 3) sc__law_piece.nd rfl (by first | exact Or.inl rfl | exact Or.inr rfl) (pe_op op_fdiv (pv 3) pe_int))
     (pss_cons (ps_for PassesOwn.never rfl (pi_range1 (by rfl) z_range (pa_cons (pv 6) pa_nil)) (pg_name (i := 4) sc__law_piece.nd rfl (by first | exact Or.inl rfl | exact Or.inr rfl))
     (pss_cons (ps_set (i := 2) sc__law_piece.nd rfl (by first | exact Or.inl rfl | exact Or.inr rfl) (pe_op op_add_str (pv 2) (pe_ix ix_str (pv 1) (pe_op op_add pe_int (pe_op op_mod (pe_callTy call_int1 (by rfl) z_int (by decide +kernel) (pa_cons (pv 3) pa_nil)) pe_int)) (fun _ _ => rfl))))
     (pss_cons (ps_set (i := 3) sc__law_piece.nd rfl (by first | exact Or.inl rfl | exact Or.inr rfl) (pe_op op_fdiv (pv 3) pe_int))
     pss_nil)))
     (pss_cons (ps_ret (pv 2))
     pss_nil)))))))))))), ?_⟩)
  refine run_spD h fun N ds d hR hq => ?_
  obtain ⟨c, rfl, rfl⟩ := hR
  walk_at "env"
  refine gs_asg (d := dT CH) (ex_call ea_nil R__law_chars_i) ?_
  walk_at "nf"
  refine gs_asg (d := dT []) (ex_txt (by decide +kernel)) ?_
  walk_at "nf"
  refine' gs_if ?t1 ?a1 ?b1
  case t1 => walk_at "t"
  case a1 =>
    intro hb
    have hb' : 10 ^ 18 ≤ c := by simpa using hb
    rw [show pieceOf c = pkL 0 95 95 ((c - 10 ^ 18) / 8) ((c - 10 ^ 18) % 8).toNat by unfold pieceOf; rw [if_pos hb']] at hq
    have e18 : (10 : Int) ^ (18 : Int).toNat = 10 ^ 18 := by decide
    refine' gs_asg (d := .int ((c - 10 ^ 18) / 8)) (EvX.is ?v1 (congrArg (fun z => PyData.int ((c - z) / 8)) e18)) ?_
    case v1 => walk_at "v"
    walk_at "nf"
    have h1 : (c - 10 ^ 18) % 8 < 8 := Int.emod_lt_of_pos _ (by decide)
    have h2 : 0 ≤ (c - 10 ^ 18) % 8 := Int.emod_nonneg _ (by decide)
    refine' gs_for (fun i => [some (.i (.int c)), some (.i (dT CH)), some (.i (dT (pkL 0 95 95 ((c - 10 ^ 18) / 8) i))), some (.i (.int (nIt 95 ((c - 10 ^ 18) / 8) i))), none, none, none]) (fun _ => []) (ew_range1 (n := (c - 10 ^ 18) % 8) ?w1 ⟨by omega, by omega⟩) (fun c' _ ad σ H ok => ok) (fun _ _ => True.intro) (fun fr up i hi => ⟨_, _, tg_name, ?w2⟩) (gs_ret (ex_var rfl) hq)
    case w1 =>
      refine' ea_cons (EvX.is ?v2 (congrArg (fun z => PyData.int ((c - z) % 8)) e18)) ea_nil
      case v2 => walk_at "v"
    case w2 =>
      walk_at "nf"
      generalize hn : nIt 95 ((c - 10 ^ 18) / 8) i = n
      have h3 : n % 95 < 95 := Int.emod_lt_of_pos _ (by decide)
      have h4 : 0 ≤ n % 95 := Int.emod_nonneg _ (by decide)
      refine' gs_asg (d := dT (pkL 0 95 95 ((c - 10 ^ 18) / 8) (i + 1))) (EvX.is (ex_catS rfl (ex_var rfl) (ex_ixS (x := CH.getD (n % 95).toNat 0) (ex_var rfl) ?w3 (Nat.le_of_ble_eq_true rfl) (atI_pos h4 (by rw [CH_len]; exact h3))) ?w5) ?w4) ?_
      case w3 => walk_at "v"
      case w4 => rw [pkL, hn, Int.zero_add]
      case w5 => rw [pkL_len]; simp; omega
      walk_at "nf"
      refine' gs_asg (d := .int (nIt 95 ((c - 10 ^ 18) / 8) (i + 1))) (EvX.is ?w6 (congrArg PyData.int (show n / 95 = nIt 95 ((c - 10 ^ 18) / 8) (i + 1) by rw [nIt, hn]))) ?_
      case w6 => walk_at "v"
      walk_at "nf"
      walk_at "wk"
  case b1 =>
    intro hb
    have hb' : ¬ 10 ^ 18 ≤ c := by simpa using hb
    refine g_nextU ?_
    refine gs_asg (d := .int (mixed c)) (ex_call (ea_cons (ex_var rfl) ea_nil) R__law_mixed_i) ?_
    walk_at "nf"
    have em : pieceOf c = if mixed c % 8 = 0 then [10] else if mixed c % 8 < 3 then List.replicate (1 + mixed c / 8 % 3).toNat 32 else pkL 1 93 93 (mixed c / 8 / 6) (1 + mixed c / 8 % 6).toNat := by unfold pieceOf; rw [if_neg hb']
    rw [em] at hq
    generalize mixed c = m at *
    have h1 : m / 8 % 3 < 3 := Int.emod_lt_of_pos _ (by decide)
    have h2 : 0 ≤ m / 8 % 3 := Int.emod_nonneg _ (by decide)
    have h3 : m / 8 % 6 < 6 := Int.emod_lt_of_pos _ (by decide)
    have h4 : 0 ≤ m / 8 % 6 := Int.emod_nonneg _ (by decide)
    walk_at "set"
    walk_at "nf"
    refine' gs_if ?t2 ?a2 ?b2
    case t2 => walk_at "t"
    case a2 =>
      intro hb
      have hb : m % 8 = 0 := by simpa using hb
      rw [if_pos hb] at hq
      exact gs_ret (ex_txt (by decide +kernel)) hq
    case b2 =>
      intro hb
      have hb : ¬ m % 8 = 0 := by simpa using hb
      rw [if_neg hb] at hq
      refine g_nextU ?_
      walk_at "set"
      walk_at "nf"
      refine' gs_if ?t3 ?a3 ?b3
      case t3 => walk_at "t"
      case a3 =>
        intro hc
        have hc : m % 8 < 3 := by simpa using hc
        rw [if_pos hc] at hq
        refine' gs_ret (EvX.is (ex_repS (a := [32]) (n := 1 + m / 8 % 3) (ex_txt (by decide +kernel)) ?w1 (by omega) (by omega) (by simp; omega)) ?w2) hq
        case w1 => walk_at "v"
        case w2 => rw [rep_one]
      case b3 =>
        intro hc
        have hc : ¬ m % 8 < 3 := by simpa using hc
        rw [if_neg hc] at hq
        refine g_nextU ?_
        walk_at "set"
        walk_at "nf"
        walk_at "set"
        walk_at "nf"
        refine' gs_for (fun i => [some (.i (.int c)), some (.i (dT CH)), some (.i (dT (pkL 1 93 93 (m / 8 / 6) i))), some (.i (.int (nIt 93 (m / 8 / 6) i))), none, none, none]) (fun _ => []) (ew_range1 (n := 1 + m / 8 % 6) ?w1 ⟨by omega, by omega⟩) ?w7 (fun _ _ => True.intro) (fun fr up i hi => ⟨_, _, tg_name, ?w2⟩) (gs_ret (ex_var rfl) hq)
        case w1 => walk_at "a"
        case w7 => exact fun c' _ ad σ H ok => ok.weak (by simp [WkE, pkL, nIt]) (by simp [WkO]) (by simp [EnLt, SvLt]) (by walk_at "osl") (by have := ok.low; simpa using this)
        case w2 =>
          walk_at "nf"
          generalize hn : nIt 93 (m / 8 / 6) i = n
          have h5 : n % 93 < 93 := Int.emod_lt_of_pos _ (by decide)
          have h6 : 0 ≤ n % 93 := Int.emod_nonneg _ (by decide)
          refine' gs_asg (d := dT (pkL 1 93 93 (m / 8 / 6) (i + 1))) (EvX.is (ex_catS rfl (ex_var rfl) (ex_ixS (x := CH.getD (1 + n % 93).toNat 0) (ex_var rfl) ?w3 (Nat.le_of_ble_eq_true rfl) (atI_pos (by omega) (by rw [CH_len]; omega))) ?w5) ?w4) ?_
          case w3 => walk_at "v"
          case w4 => rw [pkL, hn]
          case w5 => rw [pkL_len]; simp; omega
          walk_at "nf"
          refine' gs_asg (d := .int (nIt 93 (m / 8 / 6) (i + 1))) (EvX.is ?w6 (congrArg PyData.int (show n / 93 = nIt 93 (m / 8 / 6) (i + 1) by rw [nIt, hn]))) ?_
          case w6 => walk_at "v"
          walk_at "nf"
          walk_at "wk"
-- END _law_piece
abbrev s__law_text : Stmt := topS 22
theorem sc__law_text : FnScope ["script", "first", "number", "text", "k", "cell"] ["script", "first"] (defScope s__law_text) := ⟨rfl, rfl, rfl, by decide +kernel, rfl, by decide +kernel, by decide +kernel⟩
def t1 (n : Int) : Nat → List Nat
  | 0 => []
  | i + 1 => t1 n i ++ pieceOf ((n / 12 + 7919 * (i : Int)) % 10 ^ 9)
theorem t1_len (n : Int) : ∀ i, (t1 n i).length ≤ 7 * i
  | 0 => Nat.le_refl _
  | i + 1 => by
    have h1 := t1_len n i
    have h2 := pieceOf_len ((n / 12 + 7919 * (i : Int)) % 10 ^ 9)
    unfold t1
    rw [List.length_append]
    omega
def tTimes (n : Int) : Int := ([1, 1, 1, 2, 7, 40] : List Int).getD (n / 12 % 6).toNat 0
theorem tTimes_le (n : Int) : 0 ≤ tTimes n ∧ tTimes n ≤ 40 := by
  unfold tTimes
  have h : n / 12 % 6 = 0 ∨ n / 12 % 6 = 1 ∨ n / 12 % 6 = 2 ∨ n / 12 % 6 = 3 ∨ n / 12 % 6 = 4 ∨ n / 12 % 6 = 5 := by omega
  rcases h with h | h | h | h | h | h <;> rw [h] <;> decide
def textTail (ns : List Int) : List Nat := ns.flatMap pieceOf
theorem textTail_len : ∀ ns : List Int, (textTail ns).length ≤ 7 * ns.length
  | [] => Nat.le_refl _
  | n :: ns => by
    have h1 := textTail_len ns
    have h2 := pieceOf_len n
    unfold textTail at *
    rw [List.flatMap_cons, List.length_append, List.length_cons]
    omega
def textBase (n : Int) (ns : List Int) : List Nat := t1 n (n % 12).toNat ++ textTail ns
theorem textBase_len (n : Int) {ns : List Int} (h : ns.length ≤ 63) : (textBase n ns).length ≤ 525 := by
  unfold textBase
  rw [List.length_append]
  have h1 := t1_len n (n % 12).toNat
  have h2 := textTail_len ns
  have h3 : n % 12 < 12 := Int.emod_lt_of_pos _ (by decide)
  omega
def textOf (ns : List Int) (k : Nat) : List Nat := (List.replicate (tTimes (source (ns.getD k 0))).toNat (textBase (source (ns.getD k 0)) (ns.drop (k + 1)))).flatten.take 500
theorem textOf_len (ns : List Int) (k : Nat) : (textOf ns k).length ≤ 500 := by unfold textOf; rw [List.length_take]; omega
theorem rep_len {α : Type} (n : Nat) (l : List α) : (List.replicate n l).flatten.length = n * l.length := by
  rw [List.length_flatten, List.map_replicate, List.sum_replicate_nat]
def R__law_text : List PyData → PyData → Prop := fun ds d => ∃ (ns : List Int) (k : Nat), ns.length ≤ 63 ∧ k ≤ 10 ∧ ds = [dI ns, .int (k : Int)] ∧ d = dT (textOf ns k)
theorem R__law_text_i {ns : List Int} (k : Nat) (h : ns.length ≤ 63) (hk : k ≤ 10) : R__law_text [dI ns, .int (k : Int)] (dT (textOf ns k)) := ⟨ns, k, h, hk, rfl, rfl⟩
local macro_rules | `(tactic| walk_at "r2") => `(tactic| first | exact R__law_text_i 1 (by assumption) (by decide) | exact R__law_text_i 2 (by assumption) (by decide) | exact R__law_text_i 3 (by assumption) (by decide))
theorem R__law_text_len : ∀ ds d, R__law_text ds d → ds.length = 2 := by
  intro ds d hh
  unfold R__law_text at hh
  repeat (obtain ⟨_, hh⟩ := hh)
  subst_eqs
  rfl
theorem ok__law_text {P : Program} {w : World} {K : PySem.W.Frag} {mg : Str → Option Value} {base : Heap} {f : Addr} {fd : FuncData} (F : FnP K "_law_text" s__law_text f fd) (g0 : mg "_law_text" = some (.ref f)) (h__law_source : Cal P w K mg base 2 "_law_source" ["cell"] (spD K  R__law_source)) (h__law_cell : Cal P w K mg base 1 "_law_cell" ["script", "k"] (spD K  R__law_cell)) (h__law_piece : Cal P w K mg base 2 "_law_piece" ["cell"] (spD K  R__law_piece)) (z_range : mg "range" = none) (z_int : mg "int" = none) : Cal P w K mg base 3 "_law_text" ["script", "first"] (spD K  R__law_text) := by
  refine cal_mk F sc__law_text g0 (spD_len R__law_text_len) (fun _ _ _ _ _ _ us hl => match us, hl with | [_, _], _ => rfl) (fun cdv A outer s H vs Q E hr h => ⟨_,
    (pss_cons (ps_set (i := 2) sc__law_text.nd rfl (by first | exact Or.inl rfl | exact Or.inr rfl) (DL.pe_cal h__law_source hr (by decide) (by rfl) pass0 (pa_cons (DL.pe_cal h__law_cell hr (by decide) (by rfl) pass0 (pa_cons (pv 0) (pa_cons (pv 1) pa_nil))) pa_nil)))
     (pss_cons (ps_set (i := 3) sc__law_text.nd rfl (by first | exact Or.inl rfl | exact Or.inr rfl) pe_str)
     (pss_cons (ps_for PassesOwn.never rfl (pi_range1 (by rfl) z_range (pa_cons (pe_op op_mod (pe_callTy call_int1 (by rfl) z_int (by decide +kernel) (pa_cons (pv 2) pa_nil)) pe_int) pa_nil)) (pg_name (i := 4) sc__law_text.nd rfl (by first | exact Or.inl rfl | exact Or.inr rfl))
     (pss_cons (ps_set (i := 3) sc__law_text.nd rfl (by first | exact Or.inl rfl | exact Or.inr rfl) (pe_op op_add_str (pv 3) (DL.pe_cal h__law_piece hr (by decide) (by rfl) pass0 (pa_cons (pe_op op_mod (pe_callTy call_int1 (by rfl) z_int (by decide +kernel) (pa_cons (pe_op op_add (pe_op op_fdiv (pv 2) pe_int) (pe_op op_mul pe_int (pv 4))) pa_nil)) (pe_op op_pow pe_int pe_int)) pa_nil))))
     pss_nil))
     (pss_cons (ps_for PassesOwn.never rfl (DL.kPiL (K := K) (pe_slice (DL.kSlL (K := K)) (pv 0) (po_some (pe_op op_add (pv 1) pe_int)) po_none)) (pg_name (i := 5) sc__law_text.nd rfl (by first | exact Or.inl rfl | exact Or.inr rfl))
     (pss_cons (ps_set (i := 3) sc__law_text.nd rfl (by first | exact Or.inl rfl | exact Or.inr rfl) (pe_op op_add_str (pv 3) (DL.pe_cal h__law_piece hr (by decide) (by rfl) pass0 (pa_cons (pv 5) pa_nil))))
     pss_nil))
     (pss_cons (ps_ret (pe_slice sl_str (pe_op DL.op_mulS (pv 3) (pe_ix (DL.kIxL (K := K)) (pe_lst (pa_cons pe_int (pa_cons pe_int (pa_cons pe_int (pa_cons pe_int (pa_cons pe_int (pa_cons pe_int pa_nil))))))) (pe_op op_mod (pe_callTy call_int1 (by rfl) z_int (by decide +kernel) (pa_cons (pe_op op_fdiv (pv 2) pe_int) pa_nil)) pe_int) (fun _ _ => rfl))) po_none (po_some pe_int)))
     pss_nil))))), ?_⟩)
  refine run_spD h fun N ds d hR hq => ?_
  obtain ⟨ns, k, hl, hk, rfl, rfl⟩ := hR
  walk_at "env"
  walk_at "set"
  walk_at "nf"
  unfold textOf at hq
  have hdr : (ns.drop (k + 1)).length ≤ 63 := by rw [List.length_drop]; omega
  generalize source (ns.getD k 0) = n at *
  refine gs_asg (d := dT []) (ex_txt (by decide +kernel)) ?_
  walk_at "nf"
  have h1 : n % 12 < 12 := Int.emod_lt_of_pos _ (by decide)
  have h2 : 0 ≤ n % 12 := Int.emod_nonneg _ (by decide)
  have e9 : (10 : Int) ^ (9 : Int).toNat = 10 ^ 9 := by decide
  refine' gs_for (fun i => [some (.i (dI ns)), some (.i (.int (k : Int))), some (.i (.int n)), some (.i (dT (t1 n i))), none, none]) (fun _ => []) (ew_range1 (n := n % 12) ?w1 ⟨by omega, by omega⟩) (fun c' _ ad σ H ok => ok) (fun _ _ => True.intro) (fun fr up i hi => ⟨_, _, tg_name, ?w2⟩) ?w3
  case w1 => walk_at "a"
  case w2 =>
    walk_at "nf"
    have hi : i < 12 := by omega
    refine' gs_asg (d := dT (t1 n (i + 1))) (EvX.is (ex_catS (b := pieceOf ((n / 12 + 7919 * (i : Int)) % 10 ^ 9)) rfl (ex_var rfl) (ex_call (ea_cons (EvX.is ?y3 (congrArg (fun z => PyData.int ((n / 12 + 7919 * (i : Int)) % z)) e9)) ea_nil) R__law_piece_i) ?y4) rfl) ?_
    case y3 => walk_at "v"
    case y4 =>
      have h3 := t1_len n i
      have h4 := pieceOf_len ((n / 12 + 7919 * (i : Int)) % 10 ^ 9)
      omega
    walk_at "nf"
    walk_at "wk"
  case w3 =>
  refine gs_forD (xs := ns.drop (k + 1)) (f := PyData.int) (fun pre => [some (.i (dI ns)), some (.i (.int (k : Int))), some (.i (.int n)), some (.i (dT (textBase n pre))), none, none]) (fun _ => []) ?m1 ?m2 (fun fr up pre x post hx => ⟨_, _, tg_name, ?_⟩) ?_
  case m1 =>
    refine' EvF.ev (EvF.is (ef_slice (EvX.it (ex_var rfl)) (eo_some (i := ((k + 1 : Nat) : Int)) ?m3) eo_none) ?m4)
    case m3 => refine' EvX.is ?m5 ?m6; (case m5 => walk_at "v"); (case m6 => simp)
    case m4 => rw [cutG_from, ← List.map_drop, ← List.map_drop]
  case m2 =>
    intro c' _ ad σ H ok
    simpa [textBase, textTail] using ok
  · walk_at "nf"
    have hp : pre.length ≤ 63 := by
      have := congrArg List.length hx
      rw [List.length_append] at this
      omega
    refine gs_asg (d := dT (textBase n (pre ++ [x]))) (EvX.is (ex_catS (b := pieceOf x) rfl (ex_var rfl) (ex_call (ea_cons (ex_var rfl) ea_nil) R__law_piece_i) ?w5) ?w6) ?_
    case w5 =>
      have h3 := textBase_len n hp
      have h4 := pieceOf_len x
      omega
    case w6 => unfold textBase textTail; rw [List.flatMap_append, List.append_assoc]; simp
    walk_at "nf"
    walk_at "wk"
  · have ht := tTimes_le n
    have hb := textBase_len n hdr
    have hm : (textBase n (ns.drop (k + 1))).length * (tTimes n).toNat ≤ 525 * 40 := Nat.mul_le_mul hb (by omega)
    refine' gs_ret (EvX.is (ex_slS (ex_repS (n := tTimes n) (ex_var rfl) (ex_tab (ns := [1, 1, 1, 2, 7, 40]) (EvF.it (ef_lst (EvA.ss ?p0) (Nat.le_of_ble_eq_true rfl))) ?q0 ?q1 ?q2) (by omega) (by omega) (by omega)) eo_none (eo_some (i := ((500 : Nat) : Int)) ex_int) ?q3) ?q4) hq
    case p0 => walk_at "a"
    case q0 => walk_at "v"
    case q1 => exact Int.emod_nonneg _ (by decide)
    case q2 => exact Int.emod_lt_of_pos _ (by decide)
    case q3 => rw [rep_len, Nat.mul_comm]; omega
    case q4 => rw [cutG_to]
-- END _law_text
abbrev s__law_advance : Stmt := topS 23
theorem sc__law_advance : FnScope ["char", "scale"] ["char", "scale"] (defScope s__law_advance) := ⟨rfl, rfl, rfl, by decide +kernel, rfl, by decide +kernel, by decide +kernel⟩
def R__law_advance : List PyData → PyData → Prop := fun ds d => ∃ (c : Nat) (s : Int), 1 ≤ s ∧ s ≤ 1000000 ∧ ds = [dT [c], .int s] ∧ d = .int (adv s c)
theorem R__law_advance_i {c : Nat} {s : Int} (h1 : 1 ≤ s) (h2 : s ≤ 1000000) : R__law_advance [dT [c], .int s] (.int (adv s c)) := ⟨c, s, h1, h2, rfl, rfl⟩
local macro_rules | `(tactic| walk_at "r2") => `(tactic| exact R__law_advance_i (by assumption) (by assumption))
theorem R__law_advance_len : ∀ ds d, R__law_advance ds d → ds.length = 2 := by
  intro ds d hh
  unfold R__law_advance at hh
  repeat (obtain ⟨_, hh⟩ := hh)
  subst_eqs
  rfl
theorem ok__law_advance {P : Program} {w : World} {K : PySem.W.Frag} {mg : Str → Option Value} {base : Heap} {f : Addr} {fd : FuncData} (F : FnP K "_law_advance" s__law_advance f fd) (g0 : mg "_law_advance" = some (.ref f)) : Cal P w K mg base 1 "_law_advance" ["char", "scale"] (spD K  R__law_advance) := by
  refine cal_mk F sc__law_advance g0 (spD_len R__law_advance_len) (fun _ _ _ _ _ _ us hl => match us, hl with | [_, _], _ => rfl) (fun cdv A outer s H vs Q E hr h => ⟨_,
    (pss_cons (ps_if (pt_cmpR op_eq (pv 0) pe_str (nomark _))
     (pss_cons (ps_ret pe_int)
     pss_nil)
     pss_nil)
     (pss_cons (ps_if (pt_cmpR op_in_sign (pv 0) pe_str (by rfl))
     (pss_cons (ps_ret (pv 1))
     pss_nil)
     pss_nil)
     (pss_cons (ps_if (pt_cmpR op_in_sign (pv 0) pe_str (by rfl))
     (pss_cons (ps_ret (pe_op op_mul pe_int (pv 1)))
     pss_nil)
     pss_nil)
     (pss_cons (ps_ret (pe_op op_mul pe_int (pv 1)))
     pss_nil)))), ?_⟩)
  refine run_spD h fun N ds d hR hq => ?_
  obtain ⟨c, s, h1, h2, rfl, rfl⟩ := hR
  walk_at "env"
  have m2 : ∀ k : Int, 0 ≤ k → k ≤ 3 → CMul k s := fun k h3 h4 => Or.inl ⟨by omega, by omega⟩
  refine gs_if (EvT.is (et_test (ex_eqT (ex_var rfl) (ex_txt txt_nl))) (one_eq c 10)) (fun hb => ?_) (fun hb => ?_)
  · have hb : c = 10 := by simpa using hb
    refine gs_ret (EvX.is ex_int ?_) hq
    unfold adv
    rw [if_pos hb]
  · have hb : ¬ c = 10 := by simpa using hb
    refine g_nextU (gs_if (et_test (ex_inS rfl (ex_var rfl) (ex_txt txt_nar))) (fun hc => ?_) (fun hc => ?_))
    · have hc : c ∈ NARL := by simpa using hc
      refine gs_ret (EvX.is (ex_var rfl) ?_) hq
      unfold adv
      rw [if_neg hb, if_pos hc]
    · have hc : ¬ c ∈ NARL := by simpa using hc
      refine g_nextU (gs_if (et_test (ex_inS rfl (ex_var rfl) (ex_txt txt_wid))) (fun hd => ?_) (fun hd => ?_))
      · have hd : c ∈ WIDL := by simpa using hd
        refine gs_ret (EvX.is (ex_i2c ex_int (ex_var rfl) (m2 3 (by decide) (by decide))) ?_) hq
        unfold adv
        rw [if_neg hb, if_neg hc, if_pos hd]
      · have hd : ¬ c ∈ WIDL := by simpa using hd
        refine g_nextU (gs_ret (EvX.is (ex_i2c ex_int (ex_var rfl) (m2 2 (by decide) (by decide))) ?_) hq)
        unfold adv
        rw [if_neg hb, if_neg hc, if_neg hd]
-- END _law_advance
abbrev s__law_extent : Stmt := topS 24
theorem sc__law_extent : FnScope ["text", "scale", "char"] ["text", "scale"] (defScope s__law_extent) := ⟨rfl, rfl, rfl, by decide +kernel, rfl, by decide +kernel, by decide +kernel⟩
def R__law_extent : List PyData → PyData → Prop := fun ds d => ∃ (l : List Nat) (s : Int), 1 ≤ s ∧ s ≤ 1000000 ∧ l.length ≤ 40000 ∧ ds = [dT l, .int s] ∧ d = .int (wid s l)
theorem R__law_extent_i {l : List Nat} {s : Int} (h1 : 1 ≤ s) (h2 : s ≤ 1000000) (h3 : l.length ≤ 40000) : R__law_extent [dT l, .int s] (.int (wid s l)) := ⟨l, s, h1, h2, h3, rfl, rfl⟩
local macro_rules | `(tactic| walk_at "r2") => `(tactic| exact R__law_extent_i (by assumption) (by assumption) (by assumption))
theorem R__law_extent_len : ∀ ds d, R__law_extent ds d → ds.length = 2 := by
  intro ds d hh
  unfold R__law_extent at hh
  repeat (obtain ⟨_, hh⟩ := hh)
  subst_eqs
  rfl
theorem ok__law_extent {P : Program} {w : World} {K : PySem.W.Frag} {mg : Str → Option Value} {base : Heap} {f : Addr} {fd : FuncData} (F : FnP K "_law_extent" s__law_extent f fd) (g0 : mg "_law_extent" = some (.ref f)) (h__law_advance : Cal P w K mg base 1 "_law_advance" ["char", "scale"] (spD K  R__law_advance)) (z_sum : mg "sum" = none) : Cal P w K mg base 2 "_law_extent" ["text", "scale"] (spD K  R__law_extent) := by
  refine cal_mk F sc__law_extent g0 (spD_len R__law_extent_len) (fun _ _ _ _ _ _ us hl => match us, hl with | [_, _], _ => rfl) (fun cdv A outer s H vs Q E hr h => ⟨_,
    (pss_cons (ps_ret (pe_callB (DL.kSum (K := K) rfl) (by rfl) z_sum (by decide +kernel) (pa_cons (pe_lc (own := [("char", 2)]) (by rfl) sc__law_extent.nd (pi_str (pv 0)) (blkOk_by (own := [("char", 2)]) (N := ["text", "scale", "char"]) (sc := defScope s__law_extent) (by decide +kernel)) (fun _ _ _ _ _ => (pg_name (i := 2) sc__law_extent.nd rfl (by first | exact Or.inl rfl | exact Or.inr rfl))) (fun _ _ _ _ _ => pts_nil) (fun _ _ _ _ _ => (DL.pe_cal h__law_advance hr (by decide) (by rfl) pass0 (pa_cons (pv 2) (pa_cons (pv 1) pa_nil))))) pa_nil)))
     pss_nil), ?_⟩)
  refine run_spD h fun N ds d hR hq => ?_
  obtain ⟨l, s, h1, h2, h3, rfl, rfl⟩ := hR
  walk_at "env"
  refine' gs_ret (EvX.is (ex_sum (ns := l.map (adv s)) (EvF.it (EvF.is ?a1 ?a2))) rfl) hq
  case a1 =>
    refine' ef_lc (xs := l) (e := fun x => .i (dT [x])) (fun _ => true) (fun c => .int (adv s c)) (ew_str (ex_var rfl)) rfl itS_at (fun _ => True.intro) h3 (fun fr lo up acc x hx => ⟨_, _, ?j1, tg_name, et_yes, fun _ => ?j3⟩)
    case j1 => walk_at "js"
    case j3 =>
      walk_at "we"
      exact ex_call (ea_cons (ex_var rfl) (ea_cons (ex_var rfl) ea_nil)) (R__law_advance_i h1 h2)
  case a2 => simp [filt_all, List.map_map, Function.comp_def]
-- END _law_extent
abbrev s__law_room : Stmt := topS 25
theorem sc__law_room : FnScope ["cell", "text", "scale", "number", "kind", "first", "last", "room"] ["cell", "text", "scale"] (defScope s__law_room) := ⟨rfl, rfl, rfl, by decide +kernel, rfl, by decide +kernel, by decide +kernel⟩
def roomOf (c : Int) (l : List Nat) (s : Int) : Int :=
  if source c % 4 = 0 then source c / 4 % 60
  else if source c % 4 = 1 then wid s ((l.drop (min (source c / 4 % ((l.length : Int) + 1)).toNat (source c / 4 / 501 % ((l.length : Int) + 1)).toNat)).take (max (source c / 4 % ((l.length : Int) + 1)).toNat (source c / 4 / 501 % ((l.length : Int) + 1)).toNat - min (source c / 4 % ((l.length : Int) + 1)).toNat (source c / 4 / 501 % ((l.length : Int) + 1)).toNat))
  else if source c % 4 = 2 then max 0 (wid s ((l.drop (min (source c / 4 % ((l.length : Int) + 1)).toNat (source c / 4 / 501 % ((l.length : Int) + 1)).toNat)).take (max (source c / 4 % ((l.length : Int) + 1)).toNat (source c / 4 / 501 % ((l.length : Int) + 1)).toNat - min (source c / 4 % ((l.length : Int) + 1)).toNat (source c / 4 / 501 % ((l.length : Int) + 1)).toNat)) - 1)
  else source c / 4 % (1 + 2 * wid s l)
theorem roomOf_le {c : Int} {l : List Nat} {s : Int} (h1 : 1 ≤ s) (h2 : s ≤ 1000000) (h3 : l.length ≤ 40000) : 0 ≤ roomOf c l s ∧ roomOf c l s ≤ 1000000000000 := by
  have hp : ∀ m : List Nat, m.length ≤ 40000 → 0 ≤ wid s m ∧ wid s m ≤ 120000000000 := fun m hm => by
    have h4 := wid_nn s (by omega) m
    have h5 : 3 * s * (m.length : Int) ≤ 3 * 1000000 * 40000 := Int.mul_le_mul (by omega) (by omega) (by omega) (by omega)
    omega
  have hd : ∀ a b : Nat, ((l.drop a).take b).length ≤ 40000 := fun a b => by rw [List.length_take, List.length_drop]; omega
  unfold roomOf
  split
  · have := Int.emod_nonneg (source c / 4) (show (60 : Int) ≠ 0 by decide)
    have := Int.emod_lt_of_pos (source c / 4) (show (0 : Int) < 60 by decide)
    omega
  · split
    · refine ⟨(hp _ (hd _ _)).1, Int.le_trans (hp _ (hd _ _)).2 (by decide)⟩
    · split
      · generalize hz : wid s ((l.drop (min (source c / 4 % ((l.length : Int) + 1)).toNat (source c / 4 / 501 % ((l.length : Int) + 1)).toNat)).take (max (source c / 4 % ((l.length : Int) + 1)).toNat (source c / 4 / 501 % ((l.length : Int) + 1)).toNat - min (source c / 4 % ((l.length : Int) + 1)).toNat (source c / 4 / 501 % ((l.length : Int) + 1)).toNat)) = z
        have h5 := hp _ (hd (min (source c / 4 % ((l.length : Int) + 1)).toNat (source c / 4 / 501 % ((l.length : Int) + 1)).toNat) (max (source c / 4 % ((l.length : Int) + 1)).toNat (source c / 4 / 501 % ((l.length : Int) + 1)).toNat - min (source c / 4 % ((l.length : Int) + 1)).toNat (source c / 4 / 501 % ((l.length : Int) + 1)).toNat))
        rw [hz] at h5
        omega
      · have h4 := hp l h3
        have := Int.emod_nonneg (source c / 4) (show 1 + 2 * wid s l ≠ 0 by omega)
        have := Int.emod_lt_of_pos (source c / 4) (show 0 < 1 + 2 * wid s l by omega)
        omega
def R__law_room : List PyData → PyData → Prop := fun ds d => ∃ (c : Int) (l : List Nat) (s : Int), 1 ≤ s ∧ s ≤ 1000000 ∧ l.length ≤ 40000 ∧ ds = [.int c, dT l, .int s] ∧ d = .int (roomOf c l s)
theorem R__law_room_i {c : Int} {l : List Nat} {s : Int} (h1 : 1 ≤ s) (h2 : s ≤ 1000000) (h3 : l.length ≤ 40000) : R__law_room [.int c, dT l, .int s] (.int (roomOf c l s)) := ⟨c, l, s, h1, h2, h3, rfl, rfl⟩
local macro_rules | `(tactic| walk_at "r2") => `(tactic| exact R__law_room_i (by assumption) (by assumption) (by omega))
theorem R__law_room_len : ∀ ds d, R__law_room ds d → ds.length = 3 := by
  intro ds d hh
  unfold R__law_room at hh
  repeat (obtain ⟨_, hh⟩ := hh)
  subst_eqs
  rfl
theorem ok__law_room {P : Program} {w : World} {K : PySem.W.Frag} {mg : Str → Option Value} {base : Heap} {f : Addr} {fd : FuncData} (F : FnP K "_law_room" s__law_room f fd) (g0 : mg "_law_room" = some (.ref f)) (h__law_source : Cal P w K mg base 2 "_law_source" ["cell"] (spD K  R__law_source)) (h__law_extent : Cal P w K mg base 2 "_law_extent" ["text", "scale"] (spD K  R__law_extent)) (z_int : mg "int" = none) (z_len : mg "len" = none) (z_min : mg "min" = none) (z_max : mg "max" = none) : Cal P w K mg base 3 "_law_room" ["cell", "text", "scale"] (spD K  R__law_room) := by
  refine cal_mk F sc__law_room g0 (spD_len R__law_room_len) (fun _ _ _ _ _ _ us hl => match us, hl with | [_, _, _], _ => rfl) (fun cdv A outer s H vs Q E hr h => ⟨_,
    (pss_cons (ps_set (i := 3) sc__law_room.nd rfl (by first | exact Or.inl rfl | exact Or.inr rfl) (DL.pe_cal h__law_source hr (by decide) (by rfl) pass0 (pa_cons (pv 0) pa_nil)))
     (pss_cons (ps_set (i := 4) sc__law_room.nd rfl (by first | exact Or.inl rfl | exact Or.inr rfl) (pe_op op_mod (pe_callTy call_int1 (by rfl) z_int (by decide +kernel) (pa_cons (pv 3) pa_nil)) pe_int))
     (pss_cons (ps_set (i := 3) sc__law_room.nd rfl (by first | exact Or.inl rfl | exact Or.inr rfl) (pe_op op_fdiv (pv 3) pe_int))
     (pss_cons (ps_if (pt_cmpR op_eq (pv 4) pe_int (nomark _))
     (pss_cons (ps_ret (pe_op op_mod (pe_callTy call_int1 (by rfl) z_int (by decide +kernel) (pa_cons (pv 3) pa_nil)) pe_int))
     pss_nil)
     pss_nil)
     (pss_cons (ps_set (i := 5) sc__law_room.nd rfl (by first | exact Or.inl rfl | exact Or.inr rfl) (pe_op op_mod (pe_callTy call_int1 (by rfl) z_int (by decide +kernel) (pa_cons (pv 3) pa_nil)) (pe_op op_add (pe_callB call_len_str (by rfl) z_len (by decide +kernel) (pa_cons (pv 1) pa_nil)) pe_int)))
     (pss_cons (ps_set (i := 6) sc__law_room.nd rfl (by first | exact Or.inl rfl | exact Or.inr rfl) (pe_op op_mod (pe_callTy call_int1 (by rfl) z_int (by decide +kernel) (pa_cons (pe_op op_fdiv (pv 3) pe_int) pa_nil)) (pe_op op_add (pe_callB call_len_str (by rfl) z_len (by decide +kernel) (pa_cons (pv 1) pa_nil)) pe_int)))
     (pss_cons (ps_set (i := 7) sc__law_room.nd rfl (by first | exact Or.inl rfl | exact Or.inr rfl) (DL.pe_cal h__law_extent hr (by decide) (by rfl) pass0 (pa_cons (pe_slice sl_str (pv 1) (po_some (pe_callB (call_min2 rfl) (by rfl) z_min (by decide +kernel) (pa_cons (pv 5) (pa_cons (pv 6) pa_nil)))) (po_some (pe_callB (call_max2 rfl) (by rfl) z_max (by decide +kernel) (pa_cons (pv 5) (pa_cons (pv 6) pa_nil))))) (pa_cons (pv 2) pa_nil))))
     (pss_cons (ps_if (pt_cmpR op_eq (pv 4) pe_int (nomark _))
     (pss_cons (ps_ret (pv 7))
     pss_nil)
     pss_nil)
     (pss_cons (ps_if (pt_cmpR op_eq (pv 4) pe_int (nomark _))
     (pss_cons (ps_ret (pe_callB (call_max2 rfl) (by rfl) z_max (by decide +kernel) (pa_cons pe_int (pa_cons (pe_op op_sub (pv 7) pe_int) pa_nil))))
     pss_nil)
     pss_nil)
     (pss_cons (ps_ret (pe_op op_mod (pe_callTy call_int1 (by rfl) z_int (by decide +kernel) (pa_cons (pv 3) pa_nil)) (pe_op op_add pe_int (pe_op op_mul pe_int (DL.pe_cal h__law_extent hr (by decide) (by rfl) pass0 (pa_cons (pv 1) (pa_cons (pv 2) pa_nil)))))))
     pss_nil)))))))))), ?_⟩)
  refine run_spD h fun N ds d hR hq => ?_
  obtain ⟨c, l, s, h1, h2, h3, rfl, rfl⟩ := hR
  walk_at "env"
  unfold roomOf at hq
  refine gs_asg (d := .int (source c)) (ex_call (ea_cons (ex_var rfl) ea_nil) R__law_source_i) ?_
  walk_at "nf"
  generalize source c = n at *
  walk_at "set"
  walk_at "nf"
  walk_at "set"
  walk_at "nf"
  have w0 := wid_nn s (by omega) l
  have w1 : 3 * s * (l.length : Int) ≤ 3 * 1000000 * 40000 := Int.mul_le_mul (by omega) (by omega) (by omega) (by omega)
  refine' gs_if ?t1 ?t2 ?t3
  case t1 => walk_at "t"
  case t2 =>
    intro hb
    have hb : n % 4 = 0 := by simpa using hb
    rw [if_pos hb] at hq
    walk_at "ret"
  case t3 =>
  intro hb
  have hb : ¬ n % 4 = 0 := by simpa using hb
  rw [if_neg hb] at hq
  refine g_nextU ?_
  have q : ∀ m : Int, 0 ≤ m % ((l.length : Int) + 1) ∧ m % ((l.length : Int) + 1) < (l.length : Int) + 1 := fun m => ⟨Int.emod_nonneg _ (by omega), Int.emod_lt_of_pos _ (by omega)⟩
  refine' gs_asg (d := .int (((n / 4 % ((l.length : Int) + 1)).toNat : Nat) : Int)) (EvX.is (ex_i2c ?e2 (ex_i2 (ex_lenS rfl (ex_var rfl) (by omega)) ex_int) ?e3) (congrArg PyData.int (Int.toNat_of_nonneg (q _).1).symm)) ?_
  case e2 => walk_at "v"
  case e3 => omega
  walk_at "nf"
  refine' gs_asg (d := .int (((n / 4 / 501 % ((l.length : Int) + 1)).toNat : Nat) : Int)) (EvX.is (ex_i2c ?f2 (ex_i2 (ex_lenS rfl (ex_var rfl) (by omega)) ex_int) ?f3) (congrArg PyData.int (Int.toNat_of_nonneg (q _).1).symm)) ?_
  case f2 => walk_at "v"
  case f3 => omega
  walk_at "nf"
  have ha : (n / 4 % ((l.length : Int) + 1)).toNat ≤ l.length := by have := q (n / 4); omega
  have hc : (n / 4 / 501 % ((l.length : Int) + 1)).toNat ≤ l.length := by have := q (n / 4 / 501); omega
  generalize (n / 4 % ((l.length : Int) + 1)).toNat = a at *
  generalize (n / 4 / 501 % ((l.length : Int) + 1)).toNat = b at *
  refine' gs_asg (d := .int (wid s ((l.drop (min a b)).take (max a b - min a b)))) (ex_call (ea_cons (EvX.is (ex_slS (ex_var rfl) (eo_some (i := ((min a b : Nat) : Int)) (EvX.is (ex_min2 rfl (ex_var rfl) (ex_var rfl)) ?g1)) (eo_some (i := ((max a b : Nat) : Int)) (EvX.is (ex_max2 rfl (ex_var rfl) (ex_var rfl)) ?g2)) (by omega)) (congrArg dT (cutG_mid _ _ _ (by omega)))) (ea_cons (ex_var rfl) ea_nil)) (R__law_extent_i h1 h2 (by rw [List.length_take, List.length_drop]; omega))) ?_
  case g1 => congr 1; omega
  case g2 => congr 1; omega
  walk_at "nf"
  generalize wid s ((l.drop (min a b)).take (max a b - min a b)) = z at *
  refine' gs_if ?s1 ?s2 ?s3
  case s1 => walk_at "t"
  case s2 =>
    intro hb
    have hb : n % 4 = 1 := by simpa using hb
    rw [if_pos hb] at hq
    exact gs_ret (ex_var rfl) hq
  case s3 =>
  intro hb1
  have hb1 : ¬ n % 4 = 1 := by simpa using hb1
  rw [if_neg hb1] at hq
  refine g_nextU ?_
  refine' gs_if ?r1 ?r2 ?r3
  case r1 => walk_at "t"
  case r2 =>
    intro hb
    have hb : n % 4 = 2 := by simpa using hb
    rw [if_pos hb] at hq
    refine gs_ret (EvX.is (ex_max2 rfl ex_int (ex_i2 (ex_var rfl) ex_int)) ?_) hq
    congr 1
  case r3 =>
  intro hb2
  have hb2 : ¬ n % 4 = 2 := by simpa using hb2
  rw [if_neg hb2] at hq
  refine g_nextU ?_
  refine' gs_ret (ex_i2c ?k1 (ex_i2 ex_int (ex_i2c ex_int (ex_call (ea_cons (ex_var rfl) (ea_cons (ex_var rfl) ea_nil)) (R__law_extent_i h1 h2 h3)) ?k2)) ?k3) hq
  case k1 => walk_at "v"
  case k2 => exact Or.inl ⟨by decide, by decide⟩
  case k3 => omega
-- END _law_room
abbrev s__law_is_integer : Stmt := topS 26
theorem sc__law_is_integer : FnScope ["value"] ["value"] (defScope s__law_is_integer) := ⟨rfl, rfl, rfl, by decide +kernel, rfl, by decide +kernel, by decide +kernel⟩
def R__law_is_integer : List PyData → PyData → Prop := fun ds d => ∃ i, ds = [.int i] ∧ d = .bool true
theorem R__law_is_integer_i {i : Int} : R__law_is_integer [.int i] (.bool true) := ⟨i, rfl, rfl⟩
local macro_rules | `(tactic| walk_at "r2") => `(tactic| exact R__law_is_integer_i)
theorem R__law_is_integer_len : ∀ ds d, R__law_is_integer ds d → ds.length = 1 := by
  intro ds d hh
  unfold R__law_is_integer at hh
  repeat (obtain ⟨_, hh⟩ := hh)
  subst_eqs
  rfl
theorem ok__law_is_integer {P : Program} {w : World} {K : PySem.W.Frag} {mg : Str → Option Value} {base : Heap} {f : Addr} {fd : FuncData} (F : FnP K "_law_is_integer" s__law_is_integer f fd) (g0 : mg "_law_is_integer" = some (.ref f)) (z_isinstance : mg "isinstance" = none) (z_int : mg "int" = none) (z_bool : mg "bool" = none) : Cal P w K mg base 1 "_law_is_integer" ["value"] (spD K  R__law_is_integer) := by
  refine cal_mk F sc__law_is_integer g0 (spD_len R__law_is_integer_len) (fun _ _ _ _ _ _ us hl => match us, hl with | [_], _ => rfl) (fun cdv A outer s H vs Q E hr h => ⟨_,
    (pss_cons (ps_ret (pe_and (pe_callB (DL.kIsi (K := K)) (by rfl) z_isinstance (by decide +kernel) (pa_cons (pv 0) (pa_cons (pe_bltn (v := .ty "int") (u := .type "int") (by rfl) z_int (by decide +kernel) rfl) pa_nil))) (pe_one (pe_not (pe_callB (DL.kIsi (K := K)) (by rfl) z_isinstance (by decide +kernel) (pa_cons (pv 0) (pa_cons (pe_bltn (v := .ty "bool") (u := .type "bool") (by rfl) z_bool (by decide +kernel) rfl) pa_nil)))))))
     pss_nil), ?_⟩)
  refine run_spD h fun N ds d hR hq => ?_
  obtain ⟨i, rfl, rfl⟩ := hR
  walk_at "env"
  walk_at "ret"
-- END _law_is_integer
abbrev s__law_is_last : Stmt := topS 27
theorem sc__law_is_last : FnScope ["text", "line", "k"] ["text", "line"] (defScope s__law_is_last) := ⟨rfl, rfl, rfl, by decide +kernel, rfl, by decide +kernel, by decide +kernel⟩
def lastM : List Nat → Bool
  | [] => true
  | c :: r => if c = 10 then true else if c = 32 then lastM r else false
theorem lastM_eq : ∀ x : List Nat, lastM x = isBl (upC 10 x)
  | [] => rfl
  | c :: r => by
    rw [upC_cons]
    unfold lastM
    by_cases h : c = 10
    · rw [if_pos h, if_pos h]; rfl
    · rw [if_neg h, if_neg h]
      by_cases h2 : c = 32
      · rw [if_pos h2, lastM_eq r]; subst h2; rfl
      · rw [if_neg h2]
        have : isBl (c :: upC 10 r) = false := by simp [isBl, h, h2]
        rw [this]
theorem ends_last (l : List Nat) (b : Nat) : endsP l b = lastM (l.drop b) := by rw [show endsP l b = isBl (upC 10 (l.drop b)) from ends_blank _, lastM_eq]
def R__law_is_last : List PyData → PyData → Prop := fun ds d => ∃ (l : List Nat) (a b : Nat), l.length ≤ 40000 ∧ b ≤ l.length ∧ ds = [dT l, dNN (a, b)] ∧ d = .bool (endsP l b)
theorem R__law_is_last_i {l : List Nat} {a b : Nat} (h : l.length ≤ 40000) (h2 : b ≤ l.length) : R__law_is_last [dT l, dNN (a, b)] (.bool (endsP l b)) := ⟨l, a, b, h, h2, rfl, rfl⟩
local macro_rules | `(tactic| walk_at "r2") => `(tactic| exact R__law_is_last_i (by assumption) (by assumption))
theorem R__law_is_last_len : ∀ ds d, R__law_is_last ds d → ds.length = 2 := by
  intro ds d hh
  unfold R__law_is_last at hh
  repeat (obtain ⟨_, hh⟩ := hh)
  subst_eqs
  rfl
theorem ok__law_is_last {P : Program} {w : World} {K : PySem.W.Frag} {mg : Str → Option Value} {base : Heap} {f : Addr} {fd : FuncData} (F : FnP K "_law_is_last" s__law_is_last f fd) (g0 : mg "_law_is_last" = some (.ref f)) (z_range : mg "range" = none) (z_len : mg "len" = none) : Cal P w K mg base 1 "_law_is_last" ["text", "line"] (spD K  R__law_is_last) := by
  refine cal_mk F sc__law_is_last g0 (spD_len R__law_is_last_len) (fun _ _ _ _ _ _ us hl => match us, hl with | [_, _], _ => rfl) (fun cdv A outer s H vs Q E hr h => ⟨_,
    (pss_cons (ps_for PassesOwn.never rfl (pi_range2 (by rfl) z_range (pa_cons (pe_ix (DL.kIxT (K := K)) (pv 1) pe_int (fun _ _ => rfl)) (pa_cons (pe_callB call_len_str (by rfl) z_len (by decide +kernel) (pa_cons (pv 0) pa_nil)) pa_nil))) (pg_name (i := 2) sc__law_is_last.nd rfl (by first | exact Or.inl rfl | exact Or.inr rfl))
     (pss_cons (ps_if (pt_cmpR op_eq (pe_ix ix_str (pv 0) (pv 2) (fun _ _ => rfl)) pe_str (nomark _))
     (pss_cons (ps_ret pe_bl)
     pss_nil)
     pss_nil)
     (pss_cons (ps_if (pt_cmpR op_ne (pe_ix ix_str (pv 0) (pv 2) (fun _ _ => rfl)) pe_str (nomark _))
     (pss_cons (ps_ret pe_bl)
     pss_nil)
     pss_nil)
     pss_nil)))
     (pss_cons (ps_ret pe_bl)
     pss_nil)), ?_⟩)
  refine run_spD h fun N ds d hR hq => ?_
  obtain ⟨l, a, b, h, h2, rfl, rfl⟩ := hR
  walk_at "env"
  rw [ends_last] at hq
  refine' gs_forP (n := l.length - b) (fun k => lastM (l.drop (b + k)) = lastM (l.drop b)) (fun k => [some (.i (dT l)), some (.i (dNN (a, b))), none]) (fun _ => []) (EvW.is (ew_range2 (lo := (b : Int)) (hi := (l.length : Int)) (ea_cons (ex_ixT (ds := [.int (a : Int), .int (b : Int)]) (ex_var rfl) ex_int (atI_nat rfl)) (ea_cons (ex_lenS rfl (ex_var rfl) (by omega)) ea_nil)) (by omega) (by omega)) (by omega)) (fun c' _ ad σ H ok => ok) rfl (fun _ _ => True.intro) (fun fr up k hk hp => ⟨_, _, tg_name, ?b2⟩) (fun hp => ?b3)
  case b2 =>
    walk_at "nf"
    obtain ⟨x, hx⟩ : ∃ x, l[b + k]? = some x := ⟨l[b + k]'(by omega), List.getElem?_eq_getElem (by omega)⟩
    have hd : l.drop (b + k) = x :: l.drop (b + (k + 1)) := by
      obtain ⟨h3, h4⟩ := List.getElem?_eq_some_iff.mp hx
      rw [← h4]
      exact List.drop_eq_getElem_cons h3
    rw [hd] at hp
    have gx : ∀ (c : Cn) (w : Bool) (e1 : Option SV), EvX w c [some (.i (dT l)), e1, some (.i (.int ((b : Int) + (k : Int))))] [] (tOp rIxS (tVar 0) (tVar 2)) (dT [x]) := fun c w e1 => ex_ixS (ex_var rfl) (ex_var rfl) (by omega) (by rw [show (b : Int) + (k : Int) = ((b + k : Nat) : Int) by omega]; exact atI_nat hx)
    refine gs_if (b := decide (x = 10)) (EvT.is (et_test (ex_eqT (gx _ _ _) (ex_txt (l := [10]) (by decide +kernel)))) (by simp)) (fun hb => ?c2) (fun hb => ?c3)
    case c2 =>
      have hb : x = 10 := by simpa using hb
      refine gs_ret (EvX.is ex_bl ?_) hq
      rw [← hp, hb]; rfl
    case c3 =>
      have hb : ¬ x = 10 := by simpa using hb
      refine g_nextU ?_
      refine gs_if (b := !decide (x = 32)) (EvT.is (et_test (ex_neT (gx _ _ _) (ex_txt (l := [32]) (by decide +kernel)))) (by simp)) (fun hb2 => ?d2) (fun hb2 => ?d3)
      case d2 =>
        have hb2 : ¬ x = 32 := by simpa using hb2
        refine gs_ret (EvX.is ex_bl ?_) hq
        rw [← hp]; simp [lastM, hb, hb2]
      case d3 =>
        have hb2 : x = 32 := by simpa using hb2
        refine gs_nxP ?e1 ?_
        case e1 => rw [← hp, hb2]; simp [lastM]
        walk_at "wk"
  case b3 =>
    refine gs_ret (EvX.is ex_bl ?_) hq
    rw [← hp, show b + (l.length - b) = l.length by omega, List.drop_length]
    rfl
-- END _law_is_last
abbrev s__law_places : Stmt := topS 28
theorem sc__law_places : FnScope ["text", "line", "scale", "room", "side", "part", "rest", "first", "spaces", "places", "seen", "char", "more"] ["text", "line", "scale", "room", "side"] (defScope s__law_places) := ⟨rfl, rfl, rfl, by decide +kernel, rfl, by decide +kernel, by decide +kernel⟩
def al4 (k : Int) : List Nat := ([LEFT, RIGHT, CENTER, FULL] : List (List Nat)).getD k.toNat LEFT
theorem al4_at {k : Int} (h0 : 0 ≤ k) (h1 : k < 4) : atI (([dT LEFT, dT RIGHT, dT CENTER, dT FULL] : List PyData).map SV.i) k = some (.i (dT (al4 k))) := by
  have h : k = 0 ∨ k = 1 ∨ k = 2 ∨ k = 3 := by omega
  rcases h with h | h | h | h <;> subst h <;> rfl
theorem al4_in {k : Int} (h0 : 0 ≤ k) (h1 : k < 4) : al4 k = FULL ∨ al4 k = LEFT ∨ al4 k = CENTER ∨ al4 k = RIGHT := by
  have h : k = 0 ∨ k = 1 ∨ k = 2 ∨ k = 3 := by omega
  rcases h with h | h | h | h <;> subst h
  · exact Or.inr (Or.inl rfl)
  · exact Or.inr (Or.inr (Or.inr rfl))
  · exact Or.inr (Or.inr (Or.inl rfl))
  · exact Or.inl rfl
def effR (sd : Int) (l : List Nat) (b : Nat) (p : List Nat) (r : Int) : Int := if (decide (sd < 3) || (decide (p.count 32 = 0) || endsP l b)) = true then 0 else r
def firstOf (sd r : Int) : Int := ([0, r, r / 2, 0] : List Int).getD sd.toNat 0
theorem sh_zero (p : List Nat) : shOf p 0 = 0 := by unfold shOf; split <;> simp
theorem lo_zero (p : List Nat) : loOf p 0 = 0 := by unfold loOf; split <;> simp
theorem law_pl {sd s w : Int} {l : List Nat} {a b : Nat} (h0 : 0 ≤ sd) (h1 : sd < 4) : (fullP s ((l.drop a).take (b - a)) (shOf ((l.drop a).take (b - a)) (effR sd l b ((l.drop a).take (b - a)) (restOf s w ((l.drop a).take (b - a))))) (loOf ((l.drop a).take (b - a)) (effR sd l b ((l.drop a).take (b - a)) (restOf s w ((l.drop a).take (b - a))))) (((l.drop a).take (b - a)).length + 1)).map (firstOf sd (restOf s w ((l.drop a).take (b - a))) + ·) = plM s w (al4 sd) l a b := by
  have h : sd = 0 ∨ sd = 1 ∨ sd = 2 ∨ sd = 3 := by omega
  unfold plM fullM placesM
  generalize (l.drop a).take (b - a) = p at *
  generalize restOf s w p = r at *
  rcases h with h | h | h | h <;> subst h
  · rw [show effR 0 l b p r = 0 from rfl, sh_zero, lo_zero, fullP_nul, if_neg (by decide)]
    exact List.map_congr_left fun x _ => by rw [show firstOf 0 r = 0 from rfl, show moveOf (al4 0) r = 0 from rfl]; omega
  · rw [show effR 1 l b p r = 0 from rfl, sh_zero, lo_zero, fullP_nul, if_neg (by decide)]
    exact List.map_congr_left fun x _ => by rw [show firstOf 1 r = r from rfl, show moveOf (al4 1) r = r from rfl]; omega
  · rw [show effR 2 l b p r = 0 from rfl, sh_zero, lo_zero, fullP_nul, if_neg (by decide)]
    exact List.map_congr_left fun x _ => by rw [show firstOf 2 r = r / 2 from rfl, show moveOf (al4 2) r = r / 2 from rfl]; omega
  · have id0 : ∀ xs : List Int, xs.map (firstOf 3 r + ·) = xs := fun xs => by
      rw [show firstOf 3 r = 0 from rfl]
      simp
    rw [if_pos (by decide), id0]
    by_cases h2 : endsP l b = true
    · rw [if_pos h2, show effR 3 l b p r = 0 from if_pos (by rw [h2]; simp), sh_zero, lo_zero]
    · rw [if_neg h2]
      by_cases h3 : p.count 32 = 0
      · rw [show effR 3 l b p r = 0 from if_pos (by simp [h3]), sh_zero, lo_zero]
        unfold shOf loOf
        rw [if_pos h3, if_pos h3]
      · rw [show effR 3 l b p r = r from if_neg (by simp [h3]; simpa using h2)]
theorem fullP_snoc (s : Int) (p : List Nat) (sh lo : Int) (x : Nat) : fullP s (p ++ [x]) sh lo ((p ++ [x]).length + 1) = fullP s p sh lo (p.length + 1) ++ [wid s (p ++ [x]) + mvOf sh lo ((p ++ [x]).count 32)] := by
  rw [fullP_succ]
  congr 1
  · unfold fullP
    rw [List.length_append, List.length_singleton]
    refine List.map_congr_left fun k hk => ?_
    rw [List.take_append_of_le_length (by have := List.mem_range.mp hk; omega)]
  · rw [List.take_length]
def R__law_places : List PyData → List PyData → Prop := fun ds out => ∃ (l : List Nat) (a b : Nat) (s w sd : Int), 1 ≤ s ∧ s ≤ 1000000 ∧ w ≤ 1000000000000 ∧ l.length ≤ 30000 ∧ b ≤ l.length ∧ 0 ≤ sd ∧ sd < 4 ∧ ds = [dT l, dNN (a, b), .int s, .int w, .int sd] ∧ out = (plM s w (al4 sd) l a b).map PyData.int
theorem R__law_places_i {l : List Nat} {a b : Nat} {s w sd : Int} (h1 : 1 ≤ s) (h2 : s ≤ 1000000) (h5 : w ≤ 1000000000000) (h3 : l.length ≤ 30000) (h4 : b ≤ l.length) (h6 : 0 ≤ sd) (h7 : sd < 4) : R__law_places [dT l, dNN (a, b), .int s, .int w, .int sd] ((plM s w (al4 sd) l a b).map PyData.int) := ⟨l, a, b, s, w, sd, h1, h2, h5, h3, h4, h6, h7, rfl, rfl⟩
local macro_rules | `(tactic| walk_at "r2") => `(tactic| exact R__law_places_i (by assumption) (by assumption) (by assumption) (by omega) (by assumption) (by assumption) (by assumption))
theorem R__law_places_len : ∀ ds d, R__law_places ds d → ds.length = 5 := by
  intro ds d hh
  unfold R__law_places at hh
  repeat (obtain ⟨_, hh⟩ := hh)
  subst_eqs
  rfl
theorem ok__law_places {P : Program} {w : World} {K : PySem.W.Frag} {mg : Str → Option Value} {base : Heap} {f : Addr} {fd : FuncData} (F : FnP K "_law_places" s__law_places f fd) (g0 : mg "_law_places" = some (.ref f)) (h__law_extent : Cal P w K mg base 2 "_law_extent" ["text", "scale"] (spD K  R__law_extent)) (h__law_is_last : Cal P w K mg base 1 "_law_is_last" ["text", "line"] (spD K  R__law_is_last)) (h__law_advance : Cal P w K mg base 1 "_law_advance" ["char", "scale"] (spD K  R__law_advance)) (z_max : mg "max" = none) : Cal P w K mg base 3 "_law_places" ["text", "line", "scale", "room", "side"] (spF K  R__law_places) := by
  refine cal_mk F sc__law_places g0 (spF_len R__law_places_len) (fun _ _ _ _ _ _ us hl => match us, hl with | [_, _, _, _, _], _ => rfl) (fun cdv A outer s H vs Q E hr h => ⟨_,
    (pss_cons (ps_set (i := 5) sc__law_places.nd rfl (by first | exact Or.inl rfl | exact Or.inr rfl) (pe_slice sl_str (pv 0) (po_some (pe_ix (DL.kIxT (K := K)) (pv 1) pe_int (fun _ _ => rfl))) (po_some (pe_ix (DL.kIxT (K := K)) (pv 1) pe_int (fun _ _ => rfl)))))
     (pss_cons (ps_set (i := 6) sc__law_places.nd rfl (by first | exact Or.inl rfl | exact Or.inr rfl) (pe_callB (call_max2 rfl) (by rfl) z_max (by decide +kernel) (pa_cons pe_int (pa_cons (pe_op op_sub (pv 3) (DL.pe_cal h__law_extent hr (by decide) (by rfl) pass0 (pa_cons (pv 5) (pa_cons (pv 2) pa_nil)))) pa_nil))))
     (pss_cons (ps_set (i := 7) sc__law_places.nd rfl (by first | exact Or.inl rfl | exact Or.inr rfl) (pe_ix (DL.kIxL (K := K)) (pe_lst (pa_cons pe_int (pa_cons (pv 6) (pa_cons (pe_op op_fdiv (pv 6) pe_int) (pa_cons pe_int pa_nil))))) (pv 4) (fun _ _ => rfl)))
     (pss_cons (ps_set (i := 8) sc__law_places.nd rfl (by first | exact Or.inl rfl | exact Or.inr rfl) (pe_m1 PySem.F.slot_str_count PySem.F.type_str_count mt_count (pv 5) pe_str))
     (pss_cons (ps_if (PW.pt (pw_or (pt_cmpR op_lt (pv 4) pe_int (nomark _)) (pw_or (pt_cmpR op_eq (pv 8) pe_int (nomark _)) (pw_or1 (pt_val (DL.pe_cal h__law_is_last hr (by decide) (by rfl) pass0 (pa_cons (pv 0) (pa_cons (pv 1) pa_nil))))))))
     (pss_cons (ps_set (i := 6) sc__law_places.nd rfl (by first | exact Or.inl rfl | exact Or.inr rfl) pe_int)
     pss_nil)
     pss_nil)
     (pss_cons (ps_set (i := 9) sc__law_places.nd rfl (by first | exact Or.inl rfl | exact Or.inr rfl) (pe_lst (pa_cons (pv 7) pa_nil)))
     (pss_cons (ps_set (i := 10) sc__law_places.nd rfl (by first | exact Or.inl rfl | exact Or.inr rfl) pe_int)
     (pss_cons (ps_for PassesOwn.never rfl (pi_str (pv 5)) (pg_name (i := 11) sc__law_places.nd rfl (by first | exact Or.inl rfl | exact Or.inr rfl))
     (pss_cons (ps_set (i := 12) sc__law_places.nd rfl (by first | exact Or.inl rfl | exact Or.inr rfl) pe_int)
     (pss_cons (ps_if (PW.pt (pw_and (pt_cmpR op_eq (pv 11) pe_str (nomark _)) (pw_and1 (pt_cmpR op_gt (pv 6) pe_int (nomark _)))))
     (pss_cons (ps_set (i := 12) sc__law_places.nd rfl (by first | exact Or.inl rfl | exact Or.inr rfl) (pe_op op_fdiv (pv 6) (pv 8)))
     (pss_cons (ps_if (pt_cmpR op_lt (pv 10) (pe_op op_sub (pv 6) (pe_op op_mul (pv 8) (pv 12))) (nomark _))
     (pss_cons (ps_set (i := 12) sc__law_places.nd rfl (by first | exact Or.inl rfl | exact Or.inr rfl) (pe_op op_add (pv 12) pe_int))
     pss_nil)
     pss_nil)
     (pss_cons (ps_set (i := 10) sc__law_places.nd rfl (by first | exact Or.inl rfl | exact Or.inr rfl) (pe_op op_add (pv 10) pe_int))
     pss_nil)))
     pss_nil)
     (pss_cons (ps_expr (DL.kBm (K := K) (pe_bm PySem.F.plainAttrs_list PySem.F.slot_list_append PySem.F.type_list_append mt_append (pv 9) (pa_cons (pe_op op_add (pe_op op_add (pe_ix (DL.kIxL (K := K)) (pv 9) (pe_un un_neg pe_int) (fun _ _ => rfl)) (DL.pe_cal h__law_advance hr (by decide) (by rfl) pass0 (pa_cons (pv 11) (pa_cons (pv 2) pa_nil)))) (pv 12)) pa_nil))))
     pss_nil))))
     (pss_cons (ps_ret (pv 9))
     pss_nil))))))))), ?_⟩)
  refine run_spF h fun N ds d hR hq => ?_
  obtain ⟨l, a, b, s, w, sd, h1, h2, h5, h3, h4, h6, h7, rfl, rfl⟩ := hR
  walk_at "env"
  rw [← law_pl h6 h7] at hq
  have hpl : ((l.drop a).take (b - a)).length ≤ 30000 := by rw [List.length_take, List.length_drop]; omega
  refine gs_asg (d := dT ((l.drop a).take (b - a))) (EvX.is (ex_slS (ex_var rfl) (eo_some (i := (a : Int)) (ex_ixT (ds := [.int (a : Int), .int (b : Int)]) (ex_var rfl) ex_int (atI_nat rfl))) (eo_some (i := (b : Int)) (ex_ixT (ds := [.int (a : Int), .int (b : Int)]) (ex_var rfl) ex_int (atI_nat rfl))) (by omega)) (congrArg dT (cutG_mid _ _ _ h4))) ?_
  walk_at "nf"
  generalize (l.drop a).take (b - a) = p at *
  refine gs_asg (d := .int (restOf s w p)) (EvX.is (ex_max2 rfl ex_int (ex_i2 (ex_var rfl) (ex_call (ea_cons (ex_var rfl) (ea_cons (ex_var rfl) ea_nil)) (R__law_extent_i h1 h2 (by omega))))) (by unfold restOf; congr 1)) ?_
  walk_at "nf"
  have hr0 : 0 ≤ restOf s w p := by unfold restOf; omega
  have hr1 : restOf s w p ≤ 1000000000000000 := by
    have := (wid_nn s (by omega) p).1
    unfold restOf; omega
  generalize restOf s w p = r at *
  refine' gs_asg (d := .int (firstOf sd r)) (ex_tab (ns := [0, r, r / 2, 0]) (EvF.it (ef_lst (EvA.ss ?q0) (Nat.le_of_ble_eq_true rfl))) (ex_var rfl) h6 h7) ?_
  case q0 => walk_at "a"
  walk_at "nf"
  generalize firstOf sd r = f at *
  refine gs_asg (d := .int (p.count 32 : Int)) (ex_countS rfl (ex_var rfl) (ex_txt (l := [32]) (by decide +kernel))) ?_
  walk_at "nf"
  have hcl : p.count 32 ≤ p.length := List.count_le_length
  obtain ⟨re, hre⟩ : ∃ re, effR sd l b p r = re := ⟨_, rfl⟩
  rw [hre] at hq
  have hre0 : 0 ≤ re := by rw [← hre]; unfold effR; split <;> omega
  have hre1 : re ≤ 1000000000000000 := by rw [← hre]; unfold effR; split <;> omega
  have hre2 : 0 < re → p.count 32 ≠ 0 := fun h z => by
    rw [← hre] at h
    unfold effR at h
    rw [if_pos (by simp [z])] at h
    omega
  refine' gs_ifJ (b := decide (sd < 3) || (decide (p.count 32 = 0) || endsP l b)) [some (.i (dT l)), some (.i (dNN (a, b))), some (.i (.int s)), some (.i (.int w)), some (.i (.int sd)), some (.i (dT p)), some (.i (.int re)), some (.i (.int f)), some (.i (.int (p.count 32 : Int))), none, none, none, none] [] (et_or (EvT.is (et_test (ex_b2 (ex_var rfl) ex_int)) rfl) (fun _ => et_or (EvT.is (et_test (ex_eqI (ex_var rfl) ex_int)) ?t1) (fun _ => et_B (ex_call (ea_cons (ex_var rfl) (ea_cons (ex_var rfl) ea_nil)) (R__law_is_last_i (by omega) h4))))) ?t4 (fun hb hk => ?t2) (fun hb hk => ?t3)
  case t1 => exact decide_eq_decide.mpr (by omega)
  case t2 =>
    have e : re = 0 := by rw [← hre]; exact if_pos hb
    rw [e] at hk
    refine gs_asg (d := .int 0) ex_int ?_
    walk_at "nf"
    exact g_nextU hk
  case t3 =>
    have e : re = r := by rw [← hre]; exact if_neg (by rw [hb]; decide)
    rw [e] at hk
    exact g_nextU hk
  case t4 =>
  have esh : shOf p re = if p.count 32 = 0 then 0 else re / (p.count 32 : Int) := rfl
  have elo : loOf p re = if p.count 32 = 0 then 0 else re % (p.count 32 : Int) := rfl
  have hz : re = 0 → shOf p re = 0 ∧ loOf p re = 0 := fun z => by rw [z]; exact ⟨sh_zero p, lo_zero p⟩
  have hlo0 : 0 ≤ loOf p re := by
    rw [elo]; split
    · omega
    · exact Int.emod_nonneg _ (by omega)
  generalize shOf p re = sh at *
  generalize loOf p re = lo at *
  refine' gs_asgF (o := .lst ((((fullP s [] sh lo ([] : List Nat).length.succ).map (f + ·)).map PyData.int).map SV.i)) (EvF.is (ef_lst (EvA.ss (ds := [.int f]) (ea_cons (ex_var rfl) ea_nil)) (Nat.le_of_ble_eq_true rfl)) ?b1) ?_
  case b1 =>
    have e : fullP s [] sh lo ([] : List Nat).length.succ = [0] := by
      show [wid s [] + mvOf sh lo 0] = [0]
      rw [mvOf_zero sh lo hlo0]; rfl
    rw [e]
    simp
  walk_at "nf"
  refine gs_asg (d := .int (if 0 < re then ((([] : List Nat).count 32 : Nat) : Int) else 0)) (EvX.is ex_int (by simp)) ?_
  walk_at "nf"
  refine' gs_forS (xs := p) (fun pre => [some (.i (dT l)), some (.i (dNN (a, b))), some (.i (.int s)), some (.i (.int w)), some (.i (.int sd)), some (.i (dT p)), some (.i (.int re)), some (.i (.int f)), some (.i (.int (p.count 32 : Int))), some (.r 0), some (.i (.int (if 0 < re then ((pre.count 32 : Nat) : Int) else 0))), none, none]) (fun pre => [.lst ((((fullP s pre sh lo (pre.length + 1)).map (f + ·)).map PyData.int).map SV.i)]) (ex_var rfl) (fun c' _ ad σ H ok => ok) (fun fr up pre x post hx => ⟨_, _, tg_name, ?a1⟩) (gs_retO (er_var rfl (Nat.lt_succ_self 0)) rfl (fun _ => id) hq)
  case a1 =>
  walk_at "nf"
  have hpl2 : pre.length ≤ 40000 ∧ pre.length < p.length := by
    have := congrArg List.length hx
    rw [List.length_append, List.length_cons] at this
    omega
  have hcp : pre.count 32 ≤ pre.length := List.count_le_length
  refine gs_asg (d := .int 0) ex_int ?_
  walk_at "nf"
  have fl := fullP_len s pre sh lo (pre.length + 1)
  have hlast := fullP_at s pre sh lo (pre.length + 1) pre.length (by omega)
  rw [List.take_length] at hlast
  obtain ⟨mo, hmo⟩ : ∃ mo : Int, mvOf sh lo ((pre ++ [x]).count 32) - mvOf sh lo (pre.count 32) = mo := ⟨_, rfl⟩
  have hcx : (pre ++ [x]).count 32 = pre.count 32 + (if x = 32 then 1 else 0) := by
    rw [List.count_append]
    by_cases h : x = 32
    · rw [if_pos h, h]; rfl
    · rw [if_neg h, List.count_cons_of_ne h]; rfl
  refine' gs_ifJ (b := decide (x = 32) && decide (0 < re)) [some (.i (dT l)), some (.i (dNN (a, b))), some (.i (.int s)), some (.i (.int w)), some (.i (.int sd)), some (.i (dT p)), some (.i (.int re)), some (.i (.int f)), some (.i (.int (p.count 32 : Int))), some (.r 0), some (.i (.int (if 0 < re then (((pre ++ [x]).count 32 : Nat) : Int) else 0))), some (.i (dT [x])), some (.i (.int mo))] [.lst ((((fullP s pre sh lo (pre.length + 1)).map (f + ·)).map PyData.int).map SV.i)] (et_and (EvT.is (et_test (ex_eqT (ex_var rfl) (ex_txt (l := [32]) (by decide +kernel)))) (by simp)) (fun _ => EvT.is (et_test (ex_b2 (ex_var rfl) ex_int)) ?u1)) ?u4 (fun hb hk => ?u2) (fun hb hk => ?u3)
  case u1 => rfl
  case u2 =>
    rw [Bool.and_eq_true] at hb
    have hb1 : x = 32 := of_decide_eq_true hb.1
    have hb2 : 0 < re := of_decide_eq_true hb.2
    have hc0 := hre2 hb2
    rw [if_neg hc0] at esh elo
    have e1 : (if 0 < re then ((pre.count 32 : Nat) : Int) else 0) = ((pre.count 32 : Nat) : Int) := if_pos hb2
    rw [e1]
    rw [hcx, if_pos hb1] at hmo
    rw [mvOf_succ] at hmo
    refine' gs_asg (d := .int sh) (EvX.is (ex_i2c (ex_var rfl) (ex_var rfl) ?v1) (by rw [esh])) ?_
    case v1 => simp only [CDiv]; omega
    walk_at "nf"
    have hdm := Int.mul_ediv_add_emod re (p.count 32 : Int)
    have hlt : decide (((pre.count 32 : Nat) : Int) < re - (p.count 32 : Int) * sh) = decide (((pre.count 32 : Nat) : Int) < lo) := by
      rw [esh, elo]; exact decide_eq_decide.mpr (by omega)
    refine' gs_ifJ (b := decide (((pre.count 32 : Nat) : Int) < lo)) [some (.i (dT l)), some (.i (dNN (a, b))), some (.i (.int s)), some (.i (.int w)), some (.i (.int sd)), some (.i (dT p)), some (.i (.int re)), some (.i (.int f)), some (.i (.int (p.count 32 : Int))), some (.r 0), some (.i (.int ((pre.count 32 : Nat) : Int))), some (.i (dT [x])), some (.i (.int mo))] [.lst ((((fullP s pre sh lo (pre.length + 1)).map (f + ·)).map PyData.int).map SV.i)] (EvT.is (et_test (ex_b2 (ex_var rfl) (ex_i2 (ex_var rfl) (ex_i2c (ex_var rfl) (ex_var rfl) ?w1)))) hlt) ?w4 (fun hb hk2 => ?w2) (fun hb hk2 => ?w3)
    case w1 =>
      have : (p.count 32 : Int) * sh ≤ re := by rw [esh]; have := Int.emod_nonneg re (show (p.count 32 : Int) ≠ 0 by omega); omega
      have : 0 ≤ sh := by rw [esh]; exact Int.ediv_nonneg hre0 (by omega)
      have : sh ≤ re := by rw [esh]; exact Int.ediv_le_self _ hre0
      simp only [CMul]; omega
    case w2 =>
      rw [if_pos (of_decide_eq_true hb)] at hmo
      refine gs_asg (d := .int mo) (EvX.is (ex_i2 (ex_var rfl) ex_int) (by congr 1; omega)) ?_
      walk_at "nf"
      exact g_nextU hk2
    case w3 =>
      rw [if_neg (of_decide_eq_false hb)] at hmo
      have e : sh = mo := by omega
      rw [← e] at hk2
      exact g_nextU hk2
    case w4 =>
      refine gs_asg (d := .int (if 0 < re then (((pre ++ [x]).count 32 : Nat) : Int) else 0)) (EvX.is (ex_i2 (ex_var rfl) ex_int) (by rw [if_pos hb2, hcx, if_pos hb1]; congr 1)) ?_
      walk_at "nf"
      exact g_nextU hk
  case u3 =>
    have e0 : mo = 0 := by
      rw [← hmo, hcx]
      by_cases h : x = 32
      · have hn : ¬ 0 < re := by simpa [h] using hb
        obtain ⟨z1, z2⟩ := hz (by omega)
        rw [z1, z2, mvOf_nul, mvOf_nul]; omega
      · rw [if_neg h, Nat.add_zero]; omega
    have ec : (if 0 < re then (((pre ++ [x]).count 32 : Nat) : Int) else 0) = if 0 < re then ((pre.count 32 : Nat) : Int) else 0 := by
      by_cases h : 0 < re
      · have hn : ¬ x = 32 := by simpa [h] using hb
        rw [if_pos h, if_pos h, hcx, if_neg hn, Nat.add_zero]
      · rw [if_neg h, if_neg h]
    refine g_nextU ?_
    exact gs_is (by rw [e0, ec]) rfl hk
  case u4 =>
  refine' gs_app (er_var rfl (by simp)) rfl (s := .i (.int (f + (wid s (pre ++ [x]) + mvOf sh lo ((pre ++ [x]).count 32))))) ?b1 (by simp [fl]; omega) ?_
  case b1 =>
    refine' (show EvX false _ _ _ _ _ from EvX.is (ex_i2 (ex_i2 (ex_ixL (i := -1) (d := .int (f + (wid s pre + mvOf sh lo (pre.count 32)))) (EvR.it (er_var rfl (by simp)) rfl) (ex_u ex_int) ?b2) (ex_call (ea_cons (ex_var rfl) (ea_cons (ex_var rfl) ea_nil)) (R__law_advance_i h1 h2))) (ex_var rfl)) ?b3)
    case b3 => rw [wid_app, wid_one]; congr 1; omega
    case b2 =>
      have h0 : ¬ (0 : Int) ≤ -1 := by decide
      unfold atI ixN
      rw [if_neg h0, if_pos (by simp [fl]; omega)]
      have e : ((-1 : Int) + (((((fullP s pre sh lo (pre.length + 1)).map (f + ·)).map PyData.int).map SV.i).length : Nat)).toNat = pre.length := by simp [fl]; omega
      rw [e]
      show ((((fullP s pre sh lo (pre.length + 1)).map (f + ·)).map PyData.int).map SV.i)[pre.length]? = _
      rw [List.getElem?_map, List.getElem?_map, List.getElem?_map, hlast]
      rfl
  refine gs_is (os' := [.lst ((((fullP s (pre ++ [x]) sh lo ((pre ++ [x]).length + 1)).map (f + ·)).map PyData.int).map SV.i)]) rfl ?c1 ?_
  case c1 => rw [fullP_snoc]; simp
  walk_at "wk"
-- END _law_places
abbrev s__law_line_of : Stmt := topS 29
theorem sc__law_line_of : FnScope ["text", "rows", "at", "begin", "found", "k"] ["text", "rows", "at"] (defScope s__law_line_of) := ⟨rfl, rfl, rfl, by decide +kernel, rfl, by decide +kernel, by decide +kernel⟩
def R__law_line_of : List PyData → PyData → Prop := fun ds d => ∃ (l : List Nat) (s w : Int) (i : Nat), l.length ≤ 600 ∧ i ≤ l.length ∧ ds = [dT l, .list ((lines l s w).map dNN), .int (i : Int)] ∧ d = .int ((lnI l s w i : Nat) : Int)
theorem R__law_line_of_i {l : List Nat} {s w : Int} {i : Nat} (h : l.length ≤ 600) (h2 : i ≤ l.length) : R__law_line_of [dT l, .list ((lines l s w).map dNN), .int (i : Int)] (.int ((lnI l s w i : Nat) : Int)) := ⟨l, s, w, i, h, h2, rfl, rfl⟩
local macro_rules | `(tactic| walk_at "r2") => `(tactic| exact R__law_line_of_i (by omega) (by assumption))
theorem R__law_line_of_len : ∀ ds d, R__law_line_of ds d → ds.length = 3 := by
  intro ds d hh
  unfold R__law_line_of at hh
  repeat (obtain ⟨_, hh⟩ := hh)
  subst_eqs
  rfl
theorem ok__law_line_of {P : Program} {w : World} {K : PySem.W.Frag} {mg : Str → Option Value} {base : Heap} {f : Addr} {fd : FuncData} (F : FnP K "_law_line_of" s__law_line_of f fd) (g0 : mg "_law_line_of" = some (.ref f)) (z_range : mg "range" = none) (z_len : mg "len" = none) : Cal P w K mg base 1 "_law_line_of" ["text", "rows", "at"] (spD K  R__law_line_of) := by
  refine cal_mk F sc__law_line_of g0 (spD_len R__law_line_of_len) (fun _ _ _ _ _ _ us hl => match us, hl with | [_, _, _], _ => rfl) (fun cdv A outer s H vs Q E hr h => ⟨_,
    (pss_cons (ps_set (i := 3) sc__law_line_of.nd rfl (by first | exact Or.inl rfl | exact Or.inr rfl) (pv 2))
     (pss_cons (ps_while PassesOwn.never (PW.pt (pw_and (pt_cmpR op_gt (pv 3) pe_int (nomark _)) (pw_and1 (pt_cmpR op_ne (pe_ix ix_str (pv 0) (pe_op op_sub (pv 3) pe_int) (fun _ _ => rfl)) pe_str (nomark _)))))
     (pss_cons (ps_set (i := 3) sc__law_line_of.nd rfl (by first | exact Or.inl rfl | exact Or.inr rfl) (pe_op op_sub (pv 3) pe_int))
     pss_nil))
     (pss_cons (ps_set (i := 4) sc__law_line_of.nd rfl (by first | exact Or.inl rfl | exact Or.inr rfl) (pe_un un_neg pe_int))
     (pss_cons (ps_for PassesOwn.never rfl (pi_range1 (by rfl) z_range (pa_cons (pe_callB (DL.kLen (K := K)) (by rfl) z_len (by decide +kernel) (pa_cons (pv 1) pa_nil)) pa_nil)) (pg_name (i := 5) sc__law_line_of.nd rfl (by first | exact Or.inl rfl | exact Or.inr rfl))
     (pss_cons (ps_if (PW.pt (pw_and (pt_cmpR op_ge (pe_ix (DL.kIxT (K := K)) (pe_ix (DL.kIxL (K := K)) (pv 1) (pv 5) (fun _ _ => rfl)) pe_int (fun _ _ => rfl)) (pv 3) (nomark _)) (pw_and1 (PW.pt (pw_or (pt_cmpR op_lt (pv 4) pe_int (nomark _)) (pw_or1 (pt_cmpR op_le (pe_ix (DL.kIxT (K := K)) (pe_ix (DL.kIxL (K := K)) (pv 1) (pv 5) (fun _ _ => rfl)) pe_int (fun _ _ => rfl)) (pv 2) (nomark _))))))))
     (pss_cons (ps_set (i := 4) sc__law_line_of.nd rfl (by first | exact Or.inl rfl | exact Or.inr rfl) (pv 5))
     pss_nil)
     pss_nil)
     pss_nil))
     (pss_cons (ps_ret (pv 4))
     pss_nil))))), ?_⟩)
  refine run_spD h fun N ds d hR hq => ?_
  obtain ⟨l, s, w, i, hl, hi, rfl, rfl⟩ := hR
  have hfew := lines_few l s w
  have hat := fun k (h : k < (lines l s w).length) => line_at h
  have hfm := (lnI_ok l s w i hi).1
  obtain ⟨b1, b2, b3⟩ := DL.bgn_spec l i
  walk_at "env"
  refine gs_asg (d := .int (i : Int)) (ex_var rfl) ?_
  walk_at "nf"
  refine' gs_while (S := Nat) (fun b => [some (.i (dT l)), some (.i (.list ((lines l s w).map dNN))), some (.i (.int (i : Int))), some (.i (.int (b : Int))), none, none]) (fun _ => []) (fun b => DL.bgn l i ≤ b ∧ b ≤ i) (fun b => decide (DL.bgn l i < b)) (fun b => b) i (fun c' _ ad σ H ok => ok) ⟨b1, Nat.le_refl _⟩ (fun fr up b hk => ?t1) (fun fr up b hk hb => ?s1) (fun b hk hb => ?d1)
  case t1 =>
    obtain ⟨k1, k2⟩ := hk
    by_cases h0 : b = 0
    · subst h0
      refine EvT.is (et_and (a := false) (b := false) (EvT.is (et_B (ex_b2 (ex_var rfl) ex_int)) (by simp)) (fun h => nomatch h)) (by simp)
    · obtain ⟨y, hy⟩ : ∃ y, l[b - 1]? = some y := ⟨l[b - 1]'(by omega), List.getElem?_eq_getElem (by omega)⟩
      refine EvT.is (et_and (a := true) (b := !decide (y = 10)) (EvT.is (et_B (ex_b2 (ex_var rfl) ex_int)) (by simp; omega)) (fun _ => EvT.is (et_test (ex_neT (ex_ixS (ex_var rfl) (EvX.is (ex_i2 (ex_var rfl) ex_int) (show PyData.int ((b : Int) - 1) = .int ((b - 1 : Nat) : Int) by congr 1; omega)) (by omega) (atI_nat hy)) (ex_txt (l := [10]) (by decide +kernel)))) (by simp))) ?_
      rw [Bool.true_and]
      by_cases e : DL.bgn l i < b
      · have h3 := b3 (b - 1) (by omega) (by omega)
        rw [hy] at h3
        rw [decide_eq_true e]
        simp at h3
        simp [h3]
      · have e2 : DL.bgn l i = b := by omega
        rcases b2 with z | z
        · omega
        · rw [e2, hy] at z
          cases z
          rw [decide_eq_false e]; rfl
  case s1 =>
    have hb : DL.bgn l i < b := of_decide_eq_true hb
    refine gs_asg (d := .int ((b - 1 : Nat) : Int)) (EvX.is (ex_i2 (ex_var rfl) ex_int) (by congr 1; omega)) ?_
    walk_at "nf"
    exact g_next fun ad σ H ok => ⟨b - 1, by omega, by omega, ad, ok⟩
  case d1 =>
  have hb : ¬ DL.bgn l i < b := of_decide_eq_false hb
  have e : b = DL.bgn l i := by omega
  subst e
  refine gs_asg (d := .int (fM (fun k => (lineAt l s w k).1) (DL.bgn l i) i 0)) (EvX.is (ex_u ex_int) rfl) ?_
  walk_at "nf"
  refine' gs_for (n := (lines l s w).length) (fun k => [some (.i (dT l)), some (.i (.list ((lines l s w).map dNN))), some (.i (.int (i : Int))), some (.i (.int ((DL.bgn l i : Nat) : Int))), some (.i (.int (fM (fun k => (lineAt l s w k).1) (DL.bgn l i) i k))), none]) (fun _ => []) (EvW.is (ew_range1 (n := ((lines l s w).length : Int)) (ea_cons (EvX.is (ex_lenK (EvX.it (ex_var rfl))) (by simp)) ea_nil) (by omega)) (by simp)) (fun c' _ ad σ H ok => ok) (fun _ _ => True.intro) (fun fr up k hk => ⟨_, _, tg_name, ?e1⟩) (gs_ret (EvX.is (ex_var rfl) (by rw [hfm])) hq)
  case e1 =>
  walk_at "nf"
  have hst : fM (fun k => (lineAt l s w k).1) (DL.bgn l i) i (k + 1) = if DL.bgn l i ≤ (lineAt l s w k).1 ∧ (fM (fun k => (lineAt l s w k).1) (DL.bgn l i) i k < 0 ∨ (lineAt l s w k).1 ≤ i) then (k : Int) else fM (fun k => (lineAt l s w k).1) (DL.bgn l i) i k := rfl
  rw [hst]
  have hka := hat k hk
  generalize fM (fun k => (lineAt l s w k).1) (DL.bgn l i) i k = f at *
  generalize DL.bgn l i = bg at *
  generalize lineAt l s w k = q at *
  obtain ⟨a, b⟩ := q
  have gx : ∀ (c : Cn) (wb : Bool) (v0 v2 v3 v4 : Option SV), EvX wb c [v0, some (.i (.list ((lines l s w).map dNN))), v2, v3, v4, some (.i (.int (k : Int)))] [] (tOp (rIxT c.K) (tOp (rIxL c.K) (tVar 1) (tVar 5)) (tC (.int 0))) (.int (a : Int)) := fun c wb v0 v2 v3 v4 => ex_ixT (ds := [.int (a : Int), .int (b : Int)]) (ex_ixLD (ds := (lines l s w).map dNN) (ex_var rfl) (ex_var rfl) (atI_nat (by rw [List.getElem?_map, hka]; rfl))) ex_int (atI_nat rfl)
  refine gs_if (b := decide (bg ≤ a ∧ (f < 0 ∨ a ≤ i))) (EvT.is (et_and (et_B (ex_b2 (gx _ _ _ _ _ _) (ex_var rfl))) (fun _ => et_or (et_B (ex_b2 (ex_var rfl) ex_int)) (fun _ => et_B (ex_b2 (gx _ _ _ _ _ _) (ex_var rfl))))) ?f1) (fun hb => ?f2) (fun hb => ?f3)
  case f1 =>
    rw [Bool.decide_and, Bool.decide_or]
    congr 1
    · exact decide_eq_decide.mpr (by omega)
    · congr 1
      exact decide_eq_decide.mpr (by omega)
  case f2 =>
    rw [if_pos (of_decide_eq_true hb)]
    refine gs_asg (d := .int (k : Int)) (ex_var rfl) ?_
    walk_at "nf"
    refine g_nextU ?_
    walk_at "wk"
  case f3 =>
    rw [if_neg (of_decide_eq_false hb)]
    refine g_nextU ?_
    walk_at "wk"
-- END _law_line_of
abbrev s__law_indexes : Stmt := topS 30
theorem sc__law_indexes : FnScope ["text", "number", "found", "k"] ["text", "number"] (defScope s__law_indexes) := ⟨rfl, rfl, rfl, by decide +kernel, rfl, by decide +kernel, by decide +kernel⟩
def idxM (n : Int) (len : Nat) : List Int := if len ≤ 40 then DL.rgI 0 (len + 1) else DL.rgI 0 10 ++ DL.rgI ((len - 9 : Nat) : Int) 10 ++ (List.range 20).map fun k : Nat => (n + 104729 * (k : Int) * ((k : Int) + 1)) % ((len : Int) + 1)
theorem rgI_mem {lo x : Int} {n : Nat} (h : x ∈ DL.rgI lo n) : lo ≤ x ∧ x < lo + n := by
  obtain ⟨k, hk, rfl⟩ := List.mem_map.mp h
  have := List.mem_range.mp hk
  omega
theorem idxM_mem {n x : Int} {len : Nat} (h : x ∈ idxM n len) : ∃ i : Nat, x = (i : Int) ∧ i ≤ len := by
  have key : 0 ≤ x ∧ x ≤ len := by
    unfold idxM at h
    split at h
    · have := rgI_mem h; omega
    · rcases List.mem_append.mp h with h | h
      · rcases List.mem_append.mp h with h | h
        · have := rgI_mem h; omega
        · have := rgI_mem h; omega
      · obtain ⟨k, _, rfl⟩ := List.mem_map.mp h
        have h1 := Int.emod_nonneg (n + 104729 * (k : Int) * ((k : Int) + 1)) (show (len : Int) + 1 ≠ 0 by omega)
        have h2 := Int.emod_lt_of_pos (n + 104729 * (k : Int) * ((k : Int) + 1)) (show (0 : Int) < (len : Int) + 1 by omega)
        omega
  exact ⟨x.toNat, by omega, by omega⟩
theorem rgI_len (lo : Int) (n : Nat) : (DL.rgI lo n).length = n := by unfold DL.rgI; simp
def R__law_indexes : List PyData → List PyData → Prop := fun ds out => ∃ (l : List Nat) (n : Int), l.length ≤ 600 ∧ ds = [dT l, .int n] ∧ out = (idxM n l.length).map PyData.int
theorem R__law_indexes_i {l : List Nat} {n : Int} (h : l.length ≤ 600) : R__law_indexes [dT l, .int n] ((idxM n l.length).map PyData.int) := ⟨l, n, h, rfl, rfl⟩
local macro_rules | `(tactic| walk_at "r2") => `(tactic| exact R__law_indexes_i (by omega))
theorem R__law_indexes_len : ∀ ds d, R__law_indexes ds d → ds.length = 2 := by
  intro ds d hh
  unfold R__law_indexes at hh
  repeat (obtain ⟨_, hh⟩ := hh)
  subst_eqs
  rfl
theorem ok__law_indexes {P : Program} {w : World} {K : PySem.W.Frag} {mg : Str → Option Value} {base : Heap} {f : Addr} {fd : FuncData} (F : FnP K "_law_indexes" s__law_indexes f fd) (g0 : mg "_law_indexes" = some (.ref f)) (z_len : mg "len" = none) (z_list : mg "list" = none) (z_range : mg "range" = none) (z_int : mg "int" = none) : Cal P w K mg base 1 "_law_indexes" ["text", "number"] (spF K  R__law_indexes) := by
  refine cal_mk F sc__law_indexes g0 (spF_len R__law_indexes_len) (fun _ _ _ _ _ _ us hl => match us, hl with | [_, _], _ => rfl) (fun cdv A outer s H vs Q E hr h => ⟨_,
    (pss_cons (ps_if (pt_cmpR op_le (pe_callB call_len_str (by rfl) z_len (by decide +kernel) (pa_cons (pv 0) pa_nil)) pe_int (nomark _))
     (pss_cons (ps_ret (pe_listRg (by rfl) (by rfl) z_list (prg_1 (by rfl) z_range (pe_op op_add (pe_callB call_len_str (by rfl) z_len (by decide +kernel) (pa_cons (pv 0) pa_nil)) pe_int))))
     pss_nil)
     pss_nil)
     (pss_cons (ps_set (i := 2) sc__law_indexes.nd rfl (by first | exact Or.inl rfl | exact Or.inr rfl) (pe_op op_cat (pe_listRg (by rfl) (by rfl) z_list (prg_1 (by rfl) z_range pe_int)) (pe_listRg (by rfl) (by rfl) z_list (prg_2 (by rfl) z_range (pe_op op_sub (pe_callB call_len_str (by rfl) z_len (by decide +kernel) (pa_cons (pv 0) pa_nil)) pe_int) (pe_op op_add (pe_callB call_len_str (by rfl) z_len (by decide +kernel) (pa_cons (pv 0) pa_nil)) pe_int)))))
     (pss_cons (ps_for PassesOwn.never rfl (pi_range1 (by rfl) z_range (pa_cons pe_int pa_nil)) (pg_name (i := 3) sc__law_indexes.nd rfl (by first | exact Or.inl rfl | exact Or.inr rfl))
     (pss_cons (ps_expr (DL.kBm (K := K) (pe_bm PySem.F.plainAttrs_list PySem.F.slot_list_append PySem.F.type_list_append mt_append (pv 2) (pa_cons (pe_op op_mod (pe_callTy call_int1 (by rfl) z_int (by decide +kernel) (pa_cons (pe_op op_add (pv 1) (pe_op op_mul (pe_op op_mul pe_int (pv 3)) (pe_op op_add (pv 3) pe_int))) pa_nil)) (pe_op op_add (pe_callB call_len_str (by rfl) z_len (by decide +kernel) (pa_cons (pv 0) pa_nil)) pe_int)) pa_nil))))
     pss_nil))
     (pss_cons (ps_ret (pv 2))
     pss_nil)))), ?_⟩)
  refine run_spF h fun N ds d hR hq => ?_
  obtain ⟨l, n, hl, rfl, rfl⟩ := hR
  walk_at "env"
  by_cases h : l.length ≤ 40
  · refine gs_if (b := true) (EvT.is (et_B (ex_b2 (ex_lenS rfl (ex_var rfl) (by omega)) ex_int)) (decide_eq_true (by omega))) (fun _ => ?_) (fun z => nomatch z)
    unfold idxM at hq
    rw [if_pos h] at hq
    exact gs_retF (DL.ef_listRg1 (n := l.length + 1) (EvX.is (ex_i2 (ex_lenS rfl (ex_var rfl) (by omega)) ex_int) (by congr 1)) (by omega)) (fun _ => id) hq
  · refine gs_if (b := false) (EvT.is (et_B (ex_b2 (ex_lenS rfl (ex_var rfl) (by omega)) ex_int)) (decide_eq_false (by omega))) (fun z => nomatch z) fun _ => ?_
    refine g_nextU ?_
    unfold idxM at hq
    rw [if_neg h] at hq
    refine' gs_asgF (o := .lst (((DL.rgI 0 10 ++ DL.rgI ((l.length - 9 : Nat) : Int) 10 ++ (List.range 0).map fun k : Nat => (n + 104729 * (k : Int) * ((k : Int) + 1)) % ((l.length : Int) + 1)).map PyData.int).map SV.i)) (EvF.is (ef_cat (DL.ef_listRg1 (n := 10) ex_int (by decide)) (DL.ef_listRg2 (lo := l.length - 9) (n := 10) (EvX.is (ex_i2 (ex_lenS rfl (ex_var rfl) (by omega)) ex_int) (by congr 1; omega)) (EvX.is (ex_i2 (ex_lenS rfl (ex_var rfl) (by omega)) ex_int) (by congr 1; omega)) (by omega)) (by simp [DL.rgI])) (by simp)) ?_
    walk_at "nf"
    refine' gs_for (n := 20) (fun j => [some (.i (dT l)), some (.i (.int n)), some (.r 0), none]) (fun j => [.lst (((DL.rgI 0 10 ++ DL.rgI ((l.length - 9 : Nat) : Int) 10 ++ (List.range j).map fun k : Nat => (n + 104729 * (k : Int) * ((k : Int) + 1)) % ((l.length : Int) + 1)).map PyData.int).map SV.i)]) (EvW.is (ew_range1 (n := 20) (ea_cons ex_int ea_nil) (by decide)) rfl) (fun c' _ ad σ H ok => ok) (fun _ _ => True.intro) (fun fr up k hk => ⟨_, _, tg_name, ?b1⟩) (gs_retO (er_var rfl (by simp)) rfl (fun _ => id) hq)
    case b1 =>
    walk_at "nf"
    refine' gs_app (s := .i (.int ((n + 104729 * (k : Int) * ((k : Int) + 1)) % ((l.length : Int) + 1)))) (er_var rfl (by simp)) rfl (show EvX false _ _ _ _ _ from ex_i2c (ex_int1 rfl (ex_i2 (ex_var rfl) (ex_i2c (ex_i2c ex_int (ex_var rfl) ?c1) (ex_i2 (ex_var rfl) ex_int) ?c2))) (ex_i2 (ex_lenS rfl (ex_var rfl) (by omega)) ex_int) ?c3) ?c4 ?_
    case c1 => simp only [CMul]; omega
    case c2 => simp only [CMul]; omega
    case c3 => omega
    case c4 => simp [rgI_len]; omega
    refine gs_is (os' := [.lst (((DL.rgI 0 10 ++ DL.rgI ((l.length - 9 : Nat) : Int) 10 ++ (List.range (k + 1)).map fun k : Nat => (n + 104729 * (k : Int) * ((k : Int) + 1)) % ((l.length : Int) + 1)).map PyData.int).map SV.i)]) rfl (by rw [List.range_succ]; simp) ?_
    walk_at "wk"
-- END _law_indexes
abbrev s_law : Stmt := topS 31
theorem sc_law : FnScope ["script", "text", "number", "scale", "extra", "side", "room", "told", "rows", "at", "place", "due", "line", "places", "x", "caret"] ["script"] (defScope s_law) := ⟨rfl, rfl, rfl, by decide +kernel, rfl, by decide +kernel, by decide +kernel⟩
theorem roomOf_le2 {c : Int} {l : List Nat} {s : Int} (h1 : 1 ≤ s) (h2 : s ≤ 20) (h3 : l.length ≤ 500) : 0 ≤ roomOf c l s ∧ roomOf c l s ≤ 60001 := by
  have hp : ∀ m : List Nat, m.length ≤ 500 → 0 ≤ wid s m ∧ wid s m ≤ 30000 := fun m hm => by
    have h4 := wid_nn s (by omega) m
    have h5 : 3 * s * (m.length : Int) ≤ 3 * 20 * 500 := Int.mul_le_mul (by omega) (by omega) (by omega) (by omega)
    omega
  have hd : ∀ a b : Nat, ((l.drop a).take b).length ≤ 500 := fun a b => by rw [List.length_take, List.length_drop]; omega
  unfold roomOf
  split
  · have := Int.emod_nonneg (source c / 4) (show (60 : Int) ≠ 0 by decide)
    have := Int.emod_lt_of_pos (source c / 4) (show (0 : Int) < 60 by decide)
    omega
  · split
    · refine ⟨(hp _ (hd _ _)).1, Int.le_trans (hp _ (hd _ _)).2 (by decide)⟩
    · split
      · generalize hz : wid s ((l.drop (min (source c / 4 % ((l.length : Int) + 1)).toNat (source c / 4 / 501 % ((l.length : Int) + 1)).toNat)).take (max (source c / 4 % ((l.length : Int) + 1)).toNat (source c / 4 / 501 % ((l.length : Int) + 1)).toNat - min (source c / 4 % ((l.length : Int) + 1)).toNat (source c / 4 / 501 % ((l.length : Int) + 1)).toNat)) = z
        have h5 := hp _ (hd (min (source c / 4 % ((l.length : Int) + 1)).toNat (source c / 4 / 501 % ((l.length : Int) + 1)).toNat) (max (source c / 4 % ((l.length : Int) + 1)).toNat (source c / 4 / 501 % ((l.length : Int) + 1)).toNat - min (source c / 4 % ((l.length : Int) + 1)).toNat (source c / 4 / 501 % ((l.length : Int) + 1)).toNat))
        rw [hz] at h5
        omega
      · have h4 := hp l h3
        have := Int.emod_nonneg (source c / 4) (show 1 + 2 * wid s l ≠ 0 by omega)
        have := Int.emod_lt_of_pos (source c / 4) (show 0 < 1 + 2 * wid s l by omega)
        omega
theorem lnoM_lt (y h : Int) {n : Nat} (hn : 0 < n) : lnoM y h n < n := by unfold lnoM; omega
theorem wid_pos {s : Int} (hs : 1 ≤ s) : ∀ q : List Nat, (∀ c ∈ q, c ≠ 10) → q ≠ [] → 0 < wid s q
  | [], _, h => absurd rfl h
  | c :: q, h, _ => by
    have h1 : wid s (c :: q) = adv s c + wid s q := by unfold wid; rfl
    have h2 := (wid_nn s (by omega) q).1
    have h3 : 1 ≤ adv s c := by
      unfold adv
      rw [if_neg (h c (List.mem_cons_self ..))]
      split
      · omega
      · split <;> omega
    omega
theorem mv_mono {sh lo : Int} (h : 0 ≤ sh) {i j : Nat} (hij : i ≤ j) : mvOf sh lo i ≤ mvOf sh lo j := by
  unfold mvOf
  have := Int.mul_le_mul_of_nonneg_right (show (i : Int) ≤ (j : Int) by omega) h
  omega
theorem fullP_mono {s sh lo : Int} (hs : 1 ≤ s) (hsh : 0 ≤ sh) {p : List Nat} (hp : ∀ c ∈ p, c ≠ 10) {n i j : Nat} (hij : i < j) (hj : j < n) (hn : n ≤ p.length + 1) : (fullP s p sh lo n).getD i 0 < (fullP s p sh lo n).getD j 0 := by
  rw [List.getD_eq_getElem?_getD, List.getD_eq_getElem?_getD, fullP_at _ _ _ _ _ _ (by omega), fullP_at _ _ _ _ _ _ hj]
  show wid s (p.take i) + _ < wid s (p.take j) + _
  have e : p.take j = p.take i ++ (p.drop i).take (j - i) := by
    rw [← List.take_append_drop i (p.take j), List.take_take, Nat.min_eq_left (by omega), List.drop_take]
  have h1 := wid_pos hs ((p.drop i).take (j - i)) (fun c hc => hp c (List.mem_of_mem_drop (List.mem_of_mem_take hc))) (fun z => by
    have := congrArg List.length z
    rw [List.length_take, List.length_drop, List.length_nil] at this
    omega)
  have h2 : (p.take i).count 32 ≤ (p.take j).count 32 := by rw [e, List.count_append]; omega
  have h3 := mv_mono (lo := lo) hsh h2
  rw [e, wid_app] at *
  omega
theorem plM_mono {s w : Int} {al l : List Nat} {a b i j : Nat} (hs : 1 ≤ s) (hab : a ≤ b) (hb : b ≤ l.length) (hn : a < b → 10 ∉ (l.drop a).take (b - a)) (hij : i < j) (hj : j ≤ b - a) : (plM s w al l a b).getD i 0 < (plM s w al l a b).getD j 0 := by
  have hp : ((l.drop a).take (b - a)).length = b - a := by rw [List.length_take, List.length_drop]; omega
  have hp2 : ∀ c ∈ (l.drop a).take (b - a), c ≠ 10 := fun c hc z => hn (by omega) (z ▸ hc)
  have hr0 : 0 ≤ restOf s w ((l.drop a).take (b - a)) := by unfold restOf; omega
  unfold plM fullM placesM
  generalize (l.drop a).take (b - a) = p at *
  split
  · split
    · exact fullP_mono hs (Int.le_refl _) hp2 hij (by omega) (by omega)
    · refine fullP_mono hs ?_ hp2 hij (by omega) (by omega)
      unfold shOf
      split
      · omega
      · exact Int.ediv_nonneg hr0 (by omega)
  · have h1 := fullP_mono (lo := 0) hs (Int.le_refl 0) hp2 hij (n := p.length + 1) (by omega) (by omega)
    rw [fullP_nul] at h1
    have el := offs_len s p
    rw [List.getD_eq_getElem?_getD, List.getD_eq_getElem?_getD, List.getElem?_eq_getElem (by omega), List.getElem?_eq_getElem (by omega)] at h1
    rw [List.getD_eq_getElem?_getD, List.getD_eq_getElem?_getD, List.getElem?_map, List.getElem?_map, List.getElem?_eq_getElem (by omega), List.getElem?_eq_getElem (by omega)]
    show _ + _ < _ + _
    simp only [Option.getD_some] at h1
    omega
theorem near_self {ps : List Int} {x : Int} {j : Nat} (hj : j < ps.length) (hx : ps.getD j 0 = x) (hm : ∀ i k, i < k → k < ps.length → ps.getD i 0 < ps.getD k 0) : nearM ps x = j := by
  have h1 := (nearN_min ps x ps.length j hj).1
  have h2 := nearN_lt ps x ps.length
  unfold nearM
  generalize nearN ps x ps.length = k at *
  have e : ps.getD k 0 = ps.getD j 0 := by
    rw [hx] at h1
    unfold DL.absI at h1
    rw [hx]
    split at h1 <;> split at h1 <;> omega
  by_cases a : k < j
  · have := hm k j a hj; omega
  · by_cases b : j < k
    · have := hm j k b (by omega); omega
    · omega
theorem ok_law {P : Program} {w : World} {K : PySem.W.Frag} {mg : Str → Option Value} {base : Heap} {f : Addr} {fd : FuncData} (F : FnP K "law" s_law f fd) {C_Setting : Addr} (kC_Setting : Cls K C_Setting) (n_Setting_string : NoAttr K C_Setting "string") (n_Setting_size : NoAttr K C_Setting "size") (n_Setting_lead : NoAttr K C_Setting "lead") (n_Setting_width : NoAttr K C_Setting "width") (n_Setting_align : NoAttr K C_Setting "align") (n_Setting_lines : NoAttr K C_Setting "lines") (n_Setting___len__ : NoAttr K C_Setting "__len__") (n_Setting___length_hint__ : NoAttr K C_Setting "__length_hint__") (h__law_text : Cal P w K mg base 3 "_law_text" ["script", "first"] (spD K  R__law_text)) (h__law_source : Cal P w K mg base 2 "_law_source" ["cell"] (spD K  R__law_source)) (h__law_cell : Cal P w K mg base 1 "_law_cell" ["script", "k"] (spD K  R__law_cell)) (h__law_room : Cal P w K mg base 3 "_law_room" ["cell", "text", "scale"] (spD K  R__law_room)) (h_Setting___init__ : DL.MakP2 P w K mg base 4 "Setting" C_Setting ["self", "string", "size", "lead", "width", "align"] (DL.spO K C_Setting R_Setting___init__) [(2, ["size", "lead", "width", "align"], [], [])]) (h__law_indexes : Cal P w K mg base 1 "_law_indexes" ["text", "number"] (spF K  R__law_indexes)) (h_Setting_line_of : DL.MetP P w K mg base 1 C_Setting "line_of" ["self", "index"] (DL.spSD K C_Setting R_Setting_line_of)) (h__law_line_of : Cal P w K mg base 1 "_law_line_of" ["text", "rows", "at"] (spD K  R__law_line_of)) (h__law_places : Cal P w K mg base 3 "_law_places" ["text", "line", "scale", "room", "side"] (spF K  R__law_places)) (h_Setting_caret : DL.MetP P w K mg base 5 C_Setting "caret" ["self", "index"] (DL.spSD K C_Setting R_Setting_caret)) (h__law_is_integer : Cal P w K mg base 1 "_law_is_integer" ["value"] (spD K  R__law_is_integer)) (h_Setting_index_near : DL.MetP P w K mg base 5 C_Setting "index_near" ["self", "x", "y"] (DL.spSD K C_Setting R_Setting_index_near)) (h_Setting___iter__ : DL.MetP P w K mg base 1 C_Setting "__iter__" ["self"] (DL.spIt K C_Setting R_Setting___iter__)) (z_int : mg "int" = none) (z_list : mg "list" = none) (z_min : mg "min" = none) (z_isinstance : mg "isinstance" = none) (z_tuple : mg "tuple" = none) (z_max : mg "max" = none) : FnOk P w K mg base CX0 6 f fd ["script"] (spD K RLaw) := by
  refine fnok_mk F sc_law (spD_len RLaw_len) (fun cdv A outer s H vs Q E hr h => ⟨_,
    (pss_cons (ps_set (i := 1) sc_law.nd rfl (by first | exact Or.inl rfl | exact Or.inr rfl) (DL.pe_cal h__law_text hr (by decide) (by rfl) pass0 (pa_cons (pv 0) (pa_cons pe_int pa_nil))))
     (pss_cons (ps_set (i := 2) sc_law.nd rfl (by first | exact Or.inl rfl | exact Or.inr rfl) (DL.pe_cal h__law_source hr (by decide) (by rfl) pass0 (pa_cons (DL.pe_cal h__law_cell hr (by decide) (by rfl) pass0 (pa_cons (pv 0) (pa_cons pe_int pa_nil))) pa_nil)))
     (pss_cons (ps_set (i := 3) sc_law.nd rfl (by first | exact Or.inl rfl | exact Or.inr rfl) (pe_op op_add pe_int (pe_op op_mod (pe_callTy call_int1 (by rfl) z_int (by decide +kernel) (pa_cons (pv 2) pa_nil)) pe_int)))
     (pss_cons (ps_set (i := 4) sc_law.nd rfl (by first | exact Or.inl rfl | exact Or.inr rfl) (pe_op op_mod (pe_callTy call_int1 (by rfl) z_int (by decide +kernel) (pa_cons (pe_op op_fdiv (pv 2) pe_int) pa_nil)) pe_int))
     (pss_cons (ps_set (i := 5) sc_law.nd rfl (by first | exact Or.inl rfl | exact Or.inr rfl) (pe_op op_mod (pe_callTy call_int1 (by rfl) z_int (by decide +kernel) (pa_cons (pe_op op_fdiv (pv 2) pe_int) pa_nil)) pe_int))
     (pss_cons (ps_set (i := 6) sc_law.nd rfl (by first | exact Or.inl rfl | exact Or.inr rfl) (DL.pe_cal h__law_room hr (by decide) (by rfl) pass0 (pa_cons (DL.pe_cal h__law_cell hr (by decide) (by rfl) pass0 (pa_cons (pv 0) (pa_cons pe_int pa_nil))) (pa_cons (pv 1) (pa_cons (pv 3) pa_nil)))))
     (pss_cons (ps_set (i := 7) sc_law.nd rfl (by first | exact Or.inl rfl | exact Or.inr rfl) (DL.pe_makP2 h_Setting___init__ (List.mem_of_getElem? (i := 0) (a := ((2, ["size", "lead", "width", "align"], [], []) : DL.CForm2)) rfl) hr (by decide) (by rfl) pass0 (pa_cons (pv 1) pa_nil) (pk_cons (pv 3) (pk_cons (pv 4) (pk_cons (pv 6) (pk_cons (pe_ix (DL.kIxL (K := K)) (pe_lst (pa_cons pe_str (pa_cons pe_str (pa_cons pe_str (pa_cons pe_str pa_nil))))) (pv 5) (fun _ _ => rfl)) pk_nil))))))
     (pss_cons (ps_set (i := 8) sc_law.nd rfl (by first | exact Or.inl rfl | exact Or.inr rfl) (pe_callTy (DL.kListItr (K := K) h_Setting___iter__ n_Setting___len__ n_Setting___length_hint__ hr (by decide) pass0) (by rfl) z_list (by decide +kernel) (pa_cons (pv 7) pa_nil)))
     (pss_cons (ps_for PassesOwn.never rfl (DL.kPiL (K := K) (DL.pe_cal h__law_indexes hr (by decide) (by rfl) pass0 (pa_cons (pv 1) (pa_cons (pe_op op_fdiv (pv 2) pe_int) pa_nil)))) (pg_name (i := 9) sc_law.nd rfl (by first | exact Or.inl rfl | exact Or.inr rfl))
     (pss_cons (ps_set (i := 10) sc_law.nd rfl (by first | exact Or.inl rfl | exact Or.inr rfl) (DL.pe_metP h_Setting_line_of hr (by decide) pass0 (pv 7) (pa_cons (pv 9) pa_nil)))
     (pss_cons (ps_set (i := 11) sc_law.nd rfl (by first | exact Or.inl rfl | exact Or.inr rfl) (DL.pe_cal h__law_line_of hr (by decide) (by rfl) pass0 (pa_cons (pv 1) (pa_cons (pv 8) (pa_cons (pv 9) pa_nil)))))
     (pss_cons (ps_if (PW.pt (pw_or (pt_not (pt_val (DL.pe_cal h__law_is_integer hr (by decide) (by rfl) pass0 (pa_cons (pv 10) pa_nil)))) (pw_or1 (pt_cmpR op_ne (pv 10) (pv 11) (nomark _)))))
     (pss_cons (ps_ret pe_bl)
     pss_nil)
     pss_nil)
     (pss_cons (ps_set (i := 12) sc_law.nd rfl (by first | exact Or.inl rfl | exact Or.inr rfl) (pe_ix (DL.kIxL (K := K)) (pv 8) (pv 11) (fun _ _ => rfl)))
     (pss_cons (ps_set (i := 13) sc_law.nd rfl (by first | exact Or.inl rfl | exact Or.inr rfl) (DL.pe_cal h__law_places hr (by decide) (by rfl) pass0 (pa_cons (pv 1) (pa_cons (pv 12) (pa_cons (pv 3) (pa_cons (pv 6) (pa_cons (pv 5) pa_nil)))))))
     (pss_cons (ps_set (i := 14) sc_law.nd rfl (by first | exact Or.inl rfl | exact Or.inr rfl) (pe_ix (DL.kIxL (K := K)) (pv 13) (pe_op op_sub (pe_callB (call_min2 rfl) (by rfl) z_min (by decide +kernel) (pa_cons (pe_callB (call_max2 rfl) (by rfl) z_max (by decide +kernel) (pa_cons (pv 9) (pa_cons (pe_ix (DL.kIxT (K := K)) (pv 12) pe_int (fun _ _ => rfl)) pa_nil))) (pa_cons (pe_ix (DL.kIxT (K := K)) (pv 12) pe_int (fun _ _ => rfl)) pa_nil))) (pe_ix (DL.kIxT (K := K)) (pv 12) pe_int (fun _ _ => rfl))) (fun _ _ => rfl)))
     (pss_cons (ps_set (i := 15) sc_law.nd rfl (by first | exact Or.inl rfl | exact Or.inr rfl) (DL.pe_metP h_Setting_caret hr (by decide) pass0 (pv 7) (pa_cons (pv 9) pa_nil)))
     (pss_cons (ps_if (PW.pt (pw_or (pt_not (pt_val (pe_callB (DL.kIsi (K := K)) (by rfl) z_isinstance (by decide +kernel) (pa_cons (pv 15) (pa_cons (pe_bltn (v := .ty "tuple") (u := .type "tuple") (by rfl) z_tuple (by decide +kernel) rfl) pa_nil))))) (pw_or1 (pt_cmpR (DL.kNeD (K := K) hr.units) (pv 15) (pe_tup (pa_cons (pv 14) (pa_cons (pe_op op_mul (pv 11) (pe_op op_add (pv 3) (pv 4))) pa_nil))) (nomark _)))))
     (pss_cons (ps_ret pe_bl)
     pss_nil)
     pss_nil)
     (pss_cons (ps_if (PW.pt (pw_and (pt_chain op_le op_le (pe_ix (DL.kIxT (K := K)) (pv 12) pe_int (fun _ _ => rfl)) (pv 9) (pe_ix (DL.kIxT (K := K)) (pv 12) pe_int (fun _ _ => rfl))) (pw_and1 (pt_cmpR op_ne (DL.pe_metP h_Setting_index_near hr (by decide) pass0 (pv 7) (pa_cons (pe_ix (DL.kIxT (K := K)) (pv 15) pe_int (fun _ _ => rfl)) (pa_cons (pe_ix (DL.kIxT (K := K)) (pv 15) pe_int (fun _ _ => rfl)) pa_nil))) (pv 9) (nomark _)))))
     (pss_cons (ps_ret pe_bl)
     pss_nil)
     pss_nil)
     pss_nil))))))))))
     (pss_cons (ps_ret pe_bl)
     pss_nil)))))))))), ?_⟩)
  refine run_spD h fun N ds d hR hq => ?_
  obtain ⟨ns, hl, rfl, rfl⟩ := hR
  walk_at "env"
  walk_at "set"
  walk_at "nf"
  have ht := textOf_len ns 2
  generalize textOf ns 2 = t at *
  walk_at "set"
  walk_at "nf"
  generalize source (ns.getD 0 0) = n at *
  have m1 : n % 20 < 20 := Int.emod_lt_of_pos _ (by decide)
  have m2 : 0 ≤ n % 20 := Int.emod_nonneg _ (by decide)
  have m3 : n / 20 % 21 < 21 := Int.emod_lt_of_pos _ (by decide)
  have m4 : 0 ≤ n / 20 % 21 := Int.emod_nonneg _ (by decide)
  have m5 : n / 420 % 4 < 4 := Int.emod_lt_of_pos _ (by decide)
  have m6 : 0 ≤ n / 420 % 4 := Int.emod_nonneg _ (by decide)
  walk_at "set"
  walk_at "nf"
  have s1 : 1 ≤ 1 + n % 20 := by omega
  have s2 : 1 + n % 20 ≤ 1000000 := by omega
  have s3 : 1 + n % 20 ≤ 20 := by omega
  generalize 1 + n % 20 = s at *
  walk_at "set"
  walk_at "nf"
  generalize n / 20 % 21 = ld at *
  walk_at "set"
  walk_at "nf"
  have hal := al4_in m6 m5
  have hat4 := al4_at m6 m5
  generalize n / 420 % 4 = sd at *
  have hrm := roomOf_le2 (c := ns.getD 1 0) (l := t) (s := s) s1 s3 ht
  refine gs_asg (d := .int (roomOf (ns.getD 1 0) t s)) (ex_call (ea_cons (ex_call (ea_cons (ex_var rfl) (ea_cons ex_int ea_nil)) (R__law_cell_i 1)) (ea_cons (ex_var rfl) (ea_cons (ex_var rfl) ea_nil))) (R__law_room_i s1 s2 (by omega))) ?_
  walk_at "nf"
  generalize roomOf (ns.getD 1 0) t s = w at *


  have hl0 : t.length ≤ 600 := by omega
  have hok : SetOk t s ld w (al4 sd) := ⟨s1, s2, ⟨m4, by omega⟩, by omega, by omega, hal⟩
  have ga : ∀ (wb : Bool) (c : Cn) (os : List SO) (v0 v1 v2 v3 v4 v6 v7 v8 v9 v10 v11 v12 v13 v14 v15 : Option SV), EvX wb c [v0, v1, v2, v3, v4, some (.i (.int sd)), v6, v7, v8, v9, v10, v11, v12, v13, v14, v15] os (tOp (rIxL c.K) (tLst (tCons (tC (.str (Str.ofString "left"))) (tCons (tC (.str (Str.ofString "right"))) (tCons (tC (.str (Str.ofString "center"))) (tCons (tC (.str (Str.ofString "full"))) tNil))))) (tVar 5)) (dT (al4 sd)) := fun wb c os v0 v1 v2 v3 v4 v6 v7 v8 v9 v10 v11 v12 v13 v14 v15 =>
    ex_ixL (EvF.it (ef_lst (ss := [.i (dT LEFT), .i (dT RIGHT), .i (dT CENTER), .i (dT FULL)]) (EvA.ss (ds := [dT LEFT, dT RIGHT, dT CENTER, dT FULL]) (ea_cons (ex_txt tx_left) (ea_cons (ex_txt tx_right) (ea_cons (ex_txt tx_center) (ea_cons (ex_txt tx_full) ea_nil))))) (Nat.le_of_ble_eq_true rfl))) (ex_var rfl) hat4
  refine' DL.gs_asgB (DL.eb_make2 (da := []) (db := []) (ea_cons (ex_var rfl) ea_nil) (ea_cons (ex_var rfl) (ea_cons (ex_var rfl) (ea_cons (ex_var rfl) (ea_cons (ga _ _ _ _ _ _ _ _ _ _ _ _ _ _ _ _ _ _) ea_nil)))) (fun _ _ => .nil) (fun _ _ => .nil) rfl rfl (R_Setting___init___i s1 s2 (by omega))) ?_
  walk_at "nf"
  refine' gs_asg (d := .list ((lines t s w).map dNN)) (EvF.ev (DL.ef_listB (DL.eb_var rfl) R_Setting___iter___i)) ?_
  walk_at "nf"
  have hfew := lines_few t s w
  have hpairs := lines_pairs t s w
  have hne := List.length_pos_iff.mpr (lines_ne t s w)
  have hat := fun k (h : k < (lines t s w).length) => line_at h

  refine' gs_forD (xs := idxM (n / 1680) t.length) (f := PyData.int) (fun _ => [some (.i (dI ns)), some (.i (dT t)), some (.i (.int n)), some (.i (.int s)), some (.i (.int ld)), some (.i (.int sd)), some (.i (.int w)), some (.ob C_Setting (setM t s ld w (al4 sd))), some (.i (.list ((lines t s w).map dNN))), none, none, none, none, none, none, none]) (fun _ => []) (EvF.ev (ef_call (ea_cons (ex_var rfl) (ea_cons (ex_i2c (ex_var rfl) ex_int ⟨by decide, by decide⟩) ea_nil)) (R__law_indexes_i hl0))) (fun c' _ ad σ H ok => ok) (fun fr up pre x post hx => ⟨_, _, tg_name, ?b1⟩) (gs_ret ex_bl hq)
  case b1 =>
  walk_at "nf"
  obtain ⟨i, rfl, hi⟩ := idxM_mem (n := n / 1680) (len := t.length) (x := x) (by rw [hx]; simp)
  obtain ⟨_, n1, n2, n3, n4⟩ := lnI_ok t s w i hi
  have hRl : R_Setting_line_of (setM t s ld w (al4 sd)) [.int (i : Int)] (.int ((lnI t s w i : Nat) : Int)) := R_Setting_line_of_i hok hi
  have hRl2 : R__law_line_of [dT t, .list ((lines t s w).map dNN), .int (i : Int)] (.int ((lnI t s w i : Nat) : Int)) := R__law_line_of_i hl0 hi
  have hRc : R_Setting_caret (setM t s ld w (al4 sd)) [.int (i : Int)] (.tuple [.int (carX t s w (al4 sd) i), .int ((lnI t s w i : Int) * (s + ld))]) := R_Setting_caret_i hok hi
  have hkat := hat _ n1
  have hpr := hpairs _ (List.mem_of_getElem? hkat)
  have hln : LnOk t ((lines t s w).take (lnI t s w i)) (lineAt t s w (lnI t s w i)).1 (lineAt t s w (lnI t s w i)).2 := line_ok (split_at hkat)
  unfold carX at hRc
  generalize lnI t s w i = N at *
  refine' gs_asg (d := .int (N : Int)) (DL.ex_meth (DL.eb_var rfl) rfl (ea_cons (ex_var rfl) ea_nil) hRl) ?_
  walk_at "nf"
  refine' gs_asg (d := .int (N : Int)) (ex_call (ea_cons (ex_var rfl) (ea_cons (ex_var rfl) (ea_cons (ex_var rfl) ea_nil))) hRl2) ?_
  walk_at "nf"
  refine gs_if (b := false) (EvT.is (et_or (a := false) (b := false) (EvT.is (et_not (et_B (ex_call (ea_cons (ex_var rfl) ea_nil) R__law_is_integer_i))) rfl) (fun _ => EvT.is (et_test (ex_neI (ex_var rfl) (ex_var rfl))) (by simp))) rfl) (fun z => nomatch z) fun _ => ?_
  refine g_nextU ?_
  generalize lineAt t s w N = q at *
  obtain ⟨a, b⟩ := q
  have hab : a ≤ b := hpr.1
  have hbl : b ≤ t.length := hpr.2
  simp only at hRc
  obtain ⟨o, ho, ho1, ho2⟩ : ∃ o : Nat, min (max i a) b = o ∧ a ≤ o ∧ o ≤ b := ⟨_, rfl, by omega, by omega⟩
  rw [ho] at hRc
  refine' gs_asg (d := dNN (a, b)) (ex_ixLD (ds := (lines t s w).map dNN) (ex_var rfl) (ex_var rfl) (atI_nat (by rw [List.getElem?_map, hkat]; rfl))) ?_
  walk_at "nf"
  refine' gs_asg (d := .list ((plM s w (al4 sd) t a b).map PyData.int)) (EvF.ev (ef_call (ea_cons (ex_var rfl) (ea_cons (ex_var rfl) (ea_cons (ex_var rfl) (ea_cons (ex_var rfl) (ea_cons (ex_var rfl) ea_nil))))) (R__law_places_i s1 s2 (by omega) (by omega) hbl m6 m5))) ?_
  walk_at "nf"
  have hpx := posX_at (s := s) (w := w) (al := al4 sd) (l := t) (a := a) (b := b) (i := o) ho1 ho2 hbl
  have g0 : ∀ (c : Cn) (wb : Bool) (os : List SO) (v0 v1 v2 v3 v4 v5 v6 v7 v8 v9 v10 v11 v13 v14 v15 : Option SV), EvX wb c [v0, v1, v2, v3, v4, v5, v6, v7, v8, v9, v10, v11, some (.i (dNN (a, b))), v13, v14, v15] os (tOp (rIxT c.K) (tVar 12) (tC (.int 0))) (.int (a : Int)) := fun c wb os v0 v1 v2 v3 v4 v5 v6 v7 v8 v9 v10 v11 v13 v14 v15 => ex_ixT (ds := [.int (a : Int), .int (b : Int)]) (ex_var rfl) ex_int (atI_nat rfl)
  have g1 : ∀ (c : Cn) (wb : Bool) (os : List SO) (v0 v1 v2 v3 v4 v5 v6 v7 v8 v9 v10 v11 v13 v14 v15 : Option SV), EvX wb c [v0, v1, v2, v3, v4, v5, v6, v7, v8, v9, v10, v11, some (.i (dNN (a, b))), v13, v14, v15] os (tOp (rIxT c.K) (tVar 12) (tC (.int 1))) (.int (b : Int)) := fun c wb os v0 v1 v2 v3 v4 v5 v6 v7 v8 v9 v10 v11 v13 v14 v15 => ex_ixT (ds := [.int (a : Int), .int (b : Int)]) (ex_var rfl) ex_int (atI_nat rfl)
  refine' gs_asg (d := .int (posX s w (al4 sd) t a b o)) (ex_ixLD (ds := (plM s w (al4 sd) t a b).map PyData.int) (ex_var rfl) (ex_i2 (ex_min2 rfl (ex_max2 rfl (ex_var rfl) (g0 _ _ _ _ _ _ _ _ _ _ _ _ _ _ _ _ _ _)) (g1 _ _ _ _ _ _ _ _ _ _ _ _ _ _ _ _ _ _)) (g0 _ _ _ _ _ _ _ _ _ _ _ _ _ _ _ _ _ _)) (atI_natE (k := o - a) (by omega) (by rw [List.getElem?_map, hpx]; rfl))) ?_
  walk_at "nf"
  refine' gs_asg (d := .tuple [.int (posX s w (al4 sd) t a b o), .int ((N : Int) * (s + ld))]) (DL.ex_meth (DL.eb_var rfl) rfl (ea_cons (ex_var rfl) ea_nil) hRc) ?_
  walk_at "nf"
  have hsh2 : ∀ x y : Int, SeqAt.shaped (.tuple [.int x, .int y]) = true := fun _ _ => rfl
  refine' gs_if (b := false) (EvT.is (et_or (a := false) (b := false) (EvT.is (et_not (et_B (ex_isi (ex_var rfl) kit_tuple_tuple))) rfl) (fun _ => EvT.is (et_B (ex_neD (ex_var rfl) (ex_tup (ea_cons (ex_var rfl) (ea_cons (ex_i2c (ex_var rfl) (ex_i2 (ex_var rfl) (ex_var rfl)) ?c1) ea_nil)) (Nat.le_of_ble_eq_true rfl)) (hsh2 _ _) (hsh2 _ _))) (by rw [eqv_self (hsh2 _ _)]; rfl))) rfl) (fun z => nomatch z) fun _ => ?_
  case c1 => walk_at "cc"
  refine g_nextU ?_
  have hN : lnoM ((N : Int) * (s + ld)) (s + ld) (lines t s w).length = N := by
    unfold lnoM
    rw [Int.mul_ediv_cancel _ (by omega)]
    omega
  have hRi : R_Setting_index_near (setM t s ld w (al4 sd)) [.int (posX s w (al4 sd) t a b o), .int ((N : Int) * (s + ld))] (.int ((a : Int) + (nearM (plM s w (al4 sd) t a b) (posX s w (al4 sd) t a b o) : Int))) := R_Setting_index_near_i hok (by rw [hN]; exact hkat) hbl hab
  have hpl := plM_len s w (al4 sd) t a b hab hbl
  have hnear : nearM (plM s w (al4 sd) t a b) (posX s w (al4 sd) t a b o) = o - a := near_self (by omega) rfl fun x y x1 x2 => plM_mono s1 hab hbl (fun z => (hln.ful z).1) x1 (by omega)
  rw [hnear] at hRi
  refine gs_if (b := false) (EvT.is (et_and (a := decide (a ≤ i ∧ i ≤ b)) (b := !decide (o = i)) (EvT.is (et_B (ex_chain rfl rfl (g0 _ _ _ _ _ _ _ _ _ _ _ _ _ _ _ _ _ _) (ex_var rfl) (g1 _ _ _ _ _ _ _ _ _ _ _ _ _ _ _ _ _ _))) ?d1) (fun _ => EvT.is (et_test (ex_neI (DL.ex_meth (DL.eb_var rfl) rfl (ea_cons (ex_ixT (ds := [.int (posX s w (al4 sd) t a b o), .int ((N : Int) * (s + ld))]) (ex_var rfl) ex_int (atI_nat rfl)) (ea_cons (ex_ixT (ds := [.int (posX s w (al4 sd) t a b o), .int ((N : Int) * (s + ld))]) (ex_var rfl) ex_int (atI_nat rfl)) ea_nil)) hRi) (ex_var rfl))) ?d2)) ?d3) (fun z => nomatch z) fun _ => ?_
  case d1 => rw [Bool.decide_and]; congr 1 <;> exact decide_eq_decide.mpr (by omega)
  case d2 => congr 1; exact decide_eq_decide.mpr (by omega)
  case d3 =>
    by_cases h : a ≤ i ∧ i ≤ b
    · rw [decide_eq_true (show o = i by omega)]; simp
    · rw [decide_eq_false h]; rfl
  refine g_nextU ?_
  walk_at "wk"
-- END law
def fn : List He.DefD := [dD "advance" s_advance, dD "offsets" s_offsets, dD "paragraphs" s_paragraphs, dD "words" s_words, dD "break_lines" s_break_lines, dD "ends_paragraph" s_ends_paragraph, ⟨("place_line", none), "place_line", "place_line", defArgs s_place_line, defBody s_place_line, defScope s_place_line, [], [("align", .str "left")]⟩, dD "_break_paragraph" s__break_paragraph, dD "_widen_spaces" s__widen_spaces, ⟨("Setting", some "__init__"), "__init__", "Setting.__init__", defArgs s_Setting___init__, defBody s_Setting___init__, defScope s_Setting___init__, [], [("size", .int 2), ("lead", .int 0), ("align", .str "left")]⟩, ⟨("Setting", some "__iter__"), "__iter__", "Setting.__iter__", defArgs s_Setting___iter__, defBody s_Setting___iter__, defScope s_Setting___iter__, [], []⟩, ⟨("Setting", some "places"), "places", "Setting.places", defArgs s_Setting_places, defBody s_Setting_places, defScope s_Setting_places, [], []⟩, ⟨("Setting", some "line_of"), "line_of", "Setting.line_of", defArgs s_Setting_line_of, defBody s_Setting_line_of, defScope s_Setting_line_of, [], []⟩, ⟨("Setting", some "caret"), "caret", "Setting.caret", defArgs s_Setting_caret, defBody s_Setting_caret, defScope s_Setting_caret, [], []⟩, ⟨("Setting", some "index_near"), "index_near", "Setting.index_near", defArgs s_Setting_index_near, defBody s_Setting_index_near, defScope s_Setting_index_near, [], []⟩, ⟨("Setting", some "_top"), "_top", "Setting._top", defArgs s_Setting__top, defBody s_Setting__top, defScope s_Setting__top, [], []⟩, dD "_law_cell" s__law_cell, dD "_law_mixed" s__law_mixed, dD "_law_source" s__law_source, dD "_law_chars" s__law_chars, dD "_law_piece" s__law_piece, dD "_law_text" s__law_text, dD "_law_advance" s__law_advance, dD "_law_extent" s__law_extent, dD "_law_room" s__law_room, dD "_law_is_integer" s__law_is_integer, dD "_law_is_last" s__law_is_last, dD "_law_places" s__law_places, dD "_law_line_of" s__law_line_of, dD "_law_indexes" s__law_indexes, dD "law" s_law]
def ts : List He.Tab := []
def fa : List He.Fa := [.glo "advance", .glo "offsets", .glo "paragraphs", .glo "words", .glo "break_lines", .glo "ends_paragraph", .glo "place_line", .glo "_break_paragraph", .glo "_widen_spaces", .mkr "Setting", .meth "Setting" "__iter__", .meth "Setting" "places", .meth "Setting" "line_of", .meth "Setting" "caret", .meth "Setting" "index_near", .meth "Setting" "_top", .glo "_law_cell", .glo "_law_mixed", .glo "_law_source", .glo "_law_chars", .glo "_law_piece", .glo "_law_text", .glo "_law_advance", .glo "_law_extent", .glo "_law_room", .glo "_law_is_integer", .glo "_law_is_last", .glo "_law_places", .glo "_law_line_of", .glo "_law_indexes", .glo "law", .free "abs", .free "bool", .free "divmod", .free "enumerate", .free "int", .free "isinstance", .free "iter", .free "len", .free "list", .free "max", .free "min", .free "range", .free "sum", .free "tuple", .str "NARROW" " .,':;!|ijl", .str "WIDE" "mwMW@", .glo "Setting", .cls "Setting", .noat "Setting" "string", .noat "Setting" "size", .noat "Setting" "lead", .noat "Setting" "width", .noat "Setting" "align", .noat "Setting" "lines", .noat "Setting" "__len__", .noat "Setting" "__length_hint__"]
def ex (K : PySem.W.Frag) : Bool := true
abbrev R : PySem.W.OpenRow := PySem.W.OpenLaw.row PySem.Challenge.rw_quirekiln_k19_caret_and_back
abbrev hk : PySem.W.Hook := He.hookX 5 fa fn ts [] ex
def ob (s : PySem.W.SharedT) : He.AlX := He.obsX 5 fa fn ts [] ex (HandSHeadRun.getT s)
theorem ob_eq (s : PySem.W.SharedT) : ob s = hk.obs s.abs := He.obsX_eq (HandSHeadRun.getT_eq s)
def wb (b : Bool) (w : World) : World := { w with params := { w.params with followText := fun r => if r = "special-get-raises" then b else w.params.followText r } }
theorem wb_eq (w : World) : wb (w.params.followText "special-get-raises") w = w := by
  unfold wb
  have e : (fun r => if r = "special-get-raises" then w.params.followText "special-get-raises" else w.params.followText r) = w.params.followText := by
    funext r
    split
    · rename_i h
      rw [h]
    · rfl
  rw [e]
set_option maxHeartbeats 0 in
theorem run_true (w : World) : HandSHeadRun.RunEq R (PySem.W.view R.prog [31]) hk ob 2760 ["_wall", "NARROW", "WIDE", "advance", "offsets", "paragraphs", "words", "break_lines", "ends_paragraph", "place_line", "_break_paragraph", "_widen_spaces", "Setting", "_law_cell", "_law_mixed", "_law_source", "_law_chars", "_law_piece", "_law_text", "_law_advance", "_law_extent", "_law_room", "_law_is_integer", "_law_is_last", "_law_places", "_law_line_of", "_law_indexes"] (wb true w) := by
  intro os
  kernel_rfl
set_option maxHeartbeats 0 in
theorem run_false (w : World) : HandSHeadRun.RunEq R (PySem.W.view R.prog [31]) hk ob 2760 ["_wall", "NARROW", "WIDE", "advance", "offsets", "paragraphs", "words", "break_lines", "ends_paragraph", "place_line", "_break_paragraph", "_widen_spaces", "Setting", "_law_cell", "_law_mixed", "_law_source", "_law_chars", "_law_piece", "_law_text", "_law_advance", "_law_extent", "_law_room", "_law_is_integer", "_law_is_last", "_law_places", "_law_line_of", "_law_indexes"] (wb false w) := by
  intro os
  kernel_rfl
theorem run (w : World) : HandSHeadRun.RunEq R (PySem.W.view R.prog [31]) hk ob 2760 ["_wall", "NARROW", "WIDE", "advance", "offsets", "paragraphs", "words", "break_lines", "ends_paragraph", "place_line", "_break_paragraph", "_widen_spaces", "Setting", "_law_cell", "_law_mixed", "_law_source", "_law_chars", "_law_piece", "_law_text", "_law_advance", "_law_extent", "_law_room", "_law_is_integer", "_law_is_last", "_law_places", "_law_line_of", "_law_indexes"] w := by
  have e := wb_eq w
  cases h : w.params.followText "special-get-raises" with
  | true => rw [h] at e; rw [← e]; exact run_true w
  | false => rw [h] at e; rw [← e]; exact run_false w
theorem facts {P : Program} (w : World) (mg : Str → Option Value) (K : PySem.W.Frag) (h : Heap) (KX : K.In h) (G : h.Ns mainGlobals mg) (c : He.SaysX fa fn ts [] ex w h K) : mg "law" = some (.ref (He.ga K "law")) ∧ ∃ fd, FnP K "law" s_law (He.ga K "law") fd ∧
    ∀ base : Heap, K.In base → base.Ns mainGlobals mg → FnOk P w K mg base CX0 6 (He.ga K "law") fd ["script"] (spD K RLaw) := by
  have cd := c.t.d
  have q_Setting : mg "Setting" = some (.ref (He.ga K "Setting")) := He.glo_ok KX G (cd.fact 47 (f := .glo "Setting") rfl)
  have kC_Setting : Cls K (He.ga K "Setting") := He.cls_ok (cd.fact 48 (f := .cls "Setting") rfl)
  have n_Setting_string : NoAttr K (He.ga K "Setting") "string" := He.noat_ok (cd.fact 49 (f := .noat "Setting" "string") rfl)
  have n_Setting_size : NoAttr K (He.ga K "Setting") "size" := He.noat_ok (cd.fact 50 (f := .noat "Setting" "size") rfl)
  have n_Setting_lead : NoAttr K (He.ga K "Setting") "lead" := He.noat_ok (cd.fact 51 (f := .noat "Setting" "lead") rfl)
  have n_Setting_width : NoAttr K (He.ga K "Setting") "width" := He.noat_ok (cd.fact 52 (f := .noat "Setting" "width") rfl)
  have n_Setting_align : NoAttr K (He.ga K "Setting") "align" := He.noat_ok (cd.fact 53 (f := .noat "Setting" "align") rfl)
  have n_Setting_lines : NoAttr K (He.ga K "Setting") "lines" := He.noat_ok (cd.fact 54 (f := .noat "Setting" "lines") rfl)
  have n_Setting___len__ : NoAttr K (He.ga K "Setting") "__len__" := He.noat_ok (cd.fact 55 (f := .noat "Setting" "__len__") rfl)
  have n_Setting___length_hint__ : NoAttr K (He.ga K "Setting") "__length_hint__" := He.noat_ok (cd.fact 56 (f := .noat "Setting" "__length_hint__") rfl)
  have q_advance : mg "advance" = some (.ref (He.ga K "advance")) := He.glo_ok KX G (cd.fact 0 (f := .glo "advance") rfl)
  obtain ⟨d_advance, e_advance⟩ := cd.def_ 0 (d := dD "advance" s_advance) rfl
  have F_advance : FnP K "advance" s_advance (He.ga K "advance") d_advance := e_advance
  have q_offsets : mg "offsets" = some (.ref (He.ga K "offsets")) := He.glo_ok KX G (cd.fact 1 (f := .glo "offsets") rfl)
  obtain ⟨d_offsets, e_offsets⟩ := cd.def_ 1 (d := dD "offsets" s_offsets) rfl
  have F_offsets : FnP K "offsets" s_offsets (He.ga K "offsets") d_offsets := e_offsets
  have q_paragraphs : mg "paragraphs" = some (.ref (He.ga K "paragraphs")) := He.glo_ok KX G (cd.fact 2 (f := .glo "paragraphs") rfl)
  obtain ⟨d_paragraphs, e_paragraphs⟩ := cd.def_ 2 (d := dD "paragraphs" s_paragraphs) rfl
  have F_paragraphs : FnP K "paragraphs" s_paragraphs (He.ga K "paragraphs") d_paragraphs := e_paragraphs
  have q_words : mg "words" = some (.ref (He.ga K "words")) := He.glo_ok KX G (cd.fact 3 (f := .glo "words") rfl)
  obtain ⟨d_words, e_words⟩ := cd.def_ 3 (d := dD "words" s_words) rfl
  have F_words : FnP K "words" s_words (He.ga K "words") d_words := e_words
  have q_break_lines : mg "break_lines" = some (.ref (He.ga K "break_lines")) := He.glo_ok KX G (cd.fact 4 (f := .glo "break_lines") rfl)
  obtain ⟨d_break_lines, e_break_lines⟩ := cd.def_ 4 (d := dD "break_lines" s_break_lines) rfl
  have F_break_lines : FnP K "break_lines" s_break_lines (He.ga K "break_lines") d_break_lines := e_break_lines
  have q_ends_paragraph : mg "ends_paragraph" = some (.ref (He.ga K "ends_paragraph")) := He.glo_ok KX G (cd.fact 5 (f := .glo "ends_paragraph") rfl)
  obtain ⟨d_ends_paragraph, e_ends_paragraph⟩ := cd.def_ 5 (d := dD "ends_paragraph" s_ends_paragraph) rfl
  have F_ends_paragraph : FnP K "ends_paragraph" s_ends_paragraph (He.ga K "ends_paragraph") d_ends_paragraph := e_ends_paragraph
  have q_place_line : mg "place_line" = some (.ref (He.ga K "place_line")) := He.glo_ok KX G (cd.fact 6 (f := .glo "place_line") rfl)
  obtain ⟨d_place_line, e_place_line⟩ := cd.def_ 6 rfl
  have F_place_line : DL.FnQ K "place_line" s_place_line [("align", .str "left")] (He.ga K "place_line") d_place_line := e_place_line
  have q__break_paragraph : mg "_break_paragraph" = some (.ref (He.ga K "_break_paragraph")) := He.glo_ok KX G (cd.fact 7 (f := .glo "_break_paragraph") rfl)
  obtain ⟨d__break_paragraph, e__break_paragraph⟩ := cd.def_ 7 (d := dD "_break_paragraph" s__break_paragraph) rfl
  have F__break_paragraph : FnP K "_break_paragraph" s__break_paragraph (He.ga K "_break_paragraph") d__break_paragraph := e__break_paragraph
  have q__widen_spaces : mg "_widen_spaces" = some (.ref (He.ga K "_widen_spaces")) := He.glo_ok KX G (cd.fact 8 (f := .glo "_widen_spaces") rfl)
  obtain ⟨d__widen_spaces, e__widen_spaces⟩ := cd.def_ 8 (d := dD "_widen_spaces" s__widen_spaces) rfl
  have F__widen_spaces : FnP K "_widen_spaces" s__widen_spaces (He.ga K "_widen_spaces") d__widen_spaces := e__widen_spaces
  have q_Setting___init__ : Mk K (He.ga K "Setting") (He.ma K (He.ga K "Setting") "__init__") := He.mkr_ok (cd.fact 9 (f := .mkr "Setting") rfl)
  obtain ⟨d_Setting___init__, e_Setting___init__⟩ := cd.def_ 9 rfl
  have F_Setting___init__ : DL.FnM K "__init__" "Setting.__init__" s_Setting___init__ [("size", .int 2), ("lead", .int 0), ("align", .str "left")] (He.ma K (He.ga K "Setting") "__init__") d_Setting___init__ := e_Setting___init__
  have q_Setting___iter__ : Meth K (He.ga K "Setting") "__iter__" (He.ma K (He.ga K "Setting") "__iter__") := He.meth_ok (cd.fact 10 (f := .meth "Setting" "__iter__") rfl)
  obtain ⟨d_Setting___iter__, e_Setting___iter__⟩ := cd.def_ 10 rfl
  have F_Setting___iter__ : DL.FnM K "__iter__" "Setting.__iter__" s_Setting___iter__ [] (He.ma K (He.ga K "Setting") "__iter__") d_Setting___iter__ := e_Setting___iter__
  have q_Setting_places : Meth K (He.ga K "Setting") "places" (He.ma K (He.ga K "Setting") "places") := He.meth_ok (cd.fact 11 (f := .meth "Setting" "places") rfl)
  obtain ⟨d_Setting_places, e_Setting_places⟩ := cd.def_ 11 rfl
  have F_Setting_places : DL.FnM K "places" "Setting.places" s_Setting_places [] (He.ma K (He.ga K "Setting") "places") d_Setting_places := e_Setting_places
  have q_Setting_line_of : Meth K (He.ga K "Setting") "line_of" (He.ma K (He.ga K "Setting") "line_of") := He.meth_ok (cd.fact 12 (f := .meth "Setting" "line_of") rfl)
  obtain ⟨d_Setting_line_of, e_Setting_line_of⟩ := cd.def_ 12 rfl
  have F_Setting_line_of : DL.FnM K "line_of" "Setting.line_of" s_Setting_line_of [] (He.ma K (He.ga K "Setting") "line_of") d_Setting_line_of := e_Setting_line_of
  have q_Setting_caret : Meth K (He.ga K "Setting") "caret" (He.ma K (He.ga K "Setting") "caret") := He.meth_ok (cd.fact 13 (f := .meth "Setting" "caret") rfl)
  obtain ⟨d_Setting_caret, e_Setting_caret⟩ := cd.def_ 13 rfl
  have F_Setting_caret : DL.FnM K "caret" "Setting.caret" s_Setting_caret [] (He.ma K (He.ga K "Setting") "caret") d_Setting_caret := e_Setting_caret
  have q_Setting_index_near : Meth K (He.ga K "Setting") "index_near" (He.ma K (He.ga K "Setting") "index_near") := He.meth_ok (cd.fact 14 (f := .meth "Setting" "index_near") rfl)
  obtain ⟨d_Setting_index_near, e_Setting_index_near⟩ := cd.def_ 14 rfl
  have F_Setting_index_near : DL.FnM K "index_near" "Setting.index_near" s_Setting_index_near [] (He.ma K (He.ga K "Setting") "index_near") d_Setting_index_near := e_Setting_index_near
  have q_Setting__top : Meth K (He.ga K "Setting") "_top" (He.ma K (He.ga K "Setting") "_top") := He.meth_ok (cd.fact 15 (f := .meth "Setting" "_top") rfl)
  obtain ⟨d_Setting__top, e_Setting__top⟩ := cd.def_ 15 rfl
  have F_Setting__top : DL.FnM K "_top" "Setting._top" s_Setting__top [] (He.ma K (He.ga K "Setting") "_top") d_Setting__top := e_Setting__top
  have q__law_cell : mg "_law_cell" = some (.ref (He.ga K "_law_cell")) := He.glo_ok KX G (cd.fact 16 (f := .glo "_law_cell") rfl)
  obtain ⟨d__law_cell, e__law_cell⟩ := cd.def_ 16 (d := dD "_law_cell" s__law_cell) rfl
  have F__law_cell : FnP K "_law_cell" s__law_cell (He.ga K "_law_cell") d__law_cell := e__law_cell
  have q__law_mixed : mg "_law_mixed" = some (.ref (He.ga K "_law_mixed")) := He.glo_ok KX G (cd.fact 17 (f := .glo "_law_mixed") rfl)
  obtain ⟨d__law_mixed, e__law_mixed⟩ := cd.def_ 17 (d := dD "_law_mixed" s__law_mixed) rfl
  have F__law_mixed : FnP K "_law_mixed" s__law_mixed (He.ga K "_law_mixed") d__law_mixed := e__law_mixed
  have q__law_source : mg "_law_source" = some (.ref (He.ga K "_law_source")) := He.glo_ok KX G (cd.fact 18 (f := .glo "_law_source") rfl)
  obtain ⟨d__law_source, e__law_source⟩ := cd.def_ 18 (d := dD "_law_source" s__law_source) rfl
  have F__law_source : FnP K "_law_source" s__law_source (He.ga K "_law_source") d__law_source := e__law_source
  have q__law_chars : mg "_law_chars" = some (.ref (He.ga K "_law_chars")) := He.glo_ok KX G (cd.fact 19 (f := .glo "_law_chars") rfl)
  obtain ⟨d__law_chars, e__law_chars⟩ := cd.def_ 19 (d := dD "_law_chars" s__law_chars) rfl
  have F__law_chars : FnP K "_law_chars" s__law_chars (He.ga K "_law_chars") d__law_chars := e__law_chars
  have q__law_piece : mg "_law_piece" = some (.ref (He.ga K "_law_piece")) := He.glo_ok KX G (cd.fact 20 (f := .glo "_law_piece") rfl)
  obtain ⟨d__law_piece, e__law_piece⟩ := cd.def_ 20 (d := dD "_law_piece" s__law_piece) rfl
  have F__law_piece : FnP K "_law_piece" s__law_piece (He.ga K "_law_piece") d__law_piece := e__law_piece
  have q__law_text : mg "_law_text" = some (.ref (He.ga K "_law_text")) := He.glo_ok KX G (cd.fact 21 (f := .glo "_law_text") rfl)
  obtain ⟨d__law_text, e__law_text⟩ := cd.def_ 21 (d := dD "_law_text" s__law_text) rfl
  have F__law_text : FnP K "_law_text" s__law_text (He.ga K "_law_text") d__law_text := e__law_text
  have q__law_advance : mg "_law_advance" = some (.ref (He.ga K "_law_advance")) := He.glo_ok KX G (cd.fact 22 (f := .glo "_law_advance") rfl)
  obtain ⟨d__law_advance, e__law_advance⟩ := cd.def_ 22 (d := dD "_law_advance" s__law_advance) rfl
  have F__law_advance : FnP K "_law_advance" s__law_advance (He.ga K "_law_advance") d__law_advance := e__law_advance
  have q__law_extent : mg "_law_extent" = some (.ref (He.ga K "_law_extent")) := He.glo_ok KX G (cd.fact 23 (f := .glo "_law_extent") rfl)
  obtain ⟨d__law_extent, e__law_extent⟩ := cd.def_ 23 (d := dD "_law_extent" s__law_extent) rfl
  have F__law_extent : FnP K "_law_extent" s__law_extent (He.ga K "_law_extent") d__law_extent := e__law_extent
  have q__law_room : mg "_law_room" = some (.ref (He.ga K "_law_room")) := He.glo_ok KX G (cd.fact 24 (f := .glo "_law_room") rfl)
  obtain ⟨d__law_room, e__law_room⟩ := cd.def_ 24 (d := dD "_law_room" s__law_room) rfl
  have F__law_room : FnP K "_law_room" s__law_room (He.ga K "_law_room") d__law_room := e__law_room
  have q__law_is_integer : mg "_law_is_integer" = some (.ref (He.ga K "_law_is_integer")) := He.glo_ok KX G (cd.fact 25 (f := .glo "_law_is_integer") rfl)
  obtain ⟨d__law_is_integer, e__law_is_integer⟩ := cd.def_ 25 (d := dD "_law_is_integer" s__law_is_integer) rfl
  have F__law_is_integer : FnP K "_law_is_integer" s__law_is_integer (He.ga K "_law_is_integer") d__law_is_integer := e__law_is_integer
  have q__law_is_last : mg "_law_is_last" = some (.ref (He.ga K "_law_is_last")) := He.glo_ok KX G (cd.fact 26 (f := .glo "_law_is_last") rfl)
  obtain ⟨d__law_is_last, e__law_is_last⟩ := cd.def_ 26 (d := dD "_law_is_last" s__law_is_last) rfl
  have F__law_is_last : FnP K "_law_is_last" s__law_is_last (He.ga K "_law_is_last") d__law_is_last := e__law_is_last
  have q__law_places : mg "_law_places" = some (.ref (He.ga K "_law_places")) := He.glo_ok KX G (cd.fact 27 (f := .glo "_law_places") rfl)
  obtain ⟨d__law_places, e__law_places⟩ := cd.def_ 27 (d := dD "_law_places" s__law_places) rfl
  have F__law_places : FnP K "_law_places" s__law_places (He.ga K "_law_places") d__law_places := e__law_places
  have q__law_line_of : mg "_law_line_of" = some (.ref (He.ga K "_law_line_of")) := He.glo_ok KX G (cd.fact 28 (f := .glo "_law_line_of") rfl)
  obtain ⟨d__law_line_of, e__law_line_of⟩ := cd.def_ 28 (d := dD "_law_line_of" s__law_line_of) rfl
  have F__law_line_of : FnP K "_law_line_of" s__law_line_of (He.ga K "_law_line_of") d__law_line_of := e__law_line_of
  have q__law_indexes : mg "_law_indexes" = some (.ref (He.ga K "_law_indexes")) := He.glo_ok KX G (cd.fact 29 (f := .glo "_law_indexes") rfl)
  obtain ⟨d__law_indexes, e__law_indexes⟩ := cd.def_ 29 (d := dD "_law_indexes" s__law_indexes) rfl
  have F__law_indexes : FnP K "_law_indexes" s__law_indexes (He.ga K "_law_indexes") d__law_indexes := e__law_indexes
  have q_law : mg "law" = some (.ref (He.ga K "law")) := He.glo_ok KX G (cd.fact 30 (f := .glo "law") rfl)
  obtain ⟨d_law, e_law⟩ := cd.def_ 30 (d := dD "law" s_law) rfl
  have F_law : FnP K "law" s_law (He.ga K "law") d_law := e_law
  have z_abs : mg "abs" = none := He.free_ok KX G (cd.fact 31 (f := .free "abs") rfl)
  have z_bool : mg "bool" = none := He.free_ok KX G (cd.fact 32 (f := .free "bool") rfl)
  have z_divmod : mg "divmod" = none := He.free_ok KX G (cd.fact 33 (f := .free "divmod") rfl)
  have z_enumerate : mg "enumerate" = none := He.free_ok KX G (cd.fact 34 (f := .free "enumerate") rfl)
  have z_int : mg "int" = none := He.free_ok KX G (cd.fact 35 (f := .free "int") rfl)
  have z_isinstance : mg "isinstance" = none := He.free_ok KX G (cd.fact 36 (f := .free "isinstance") rfl)
  have z_iter : mg "iter" = none := He.free_ok KX G (cd.fact 37 (f := .free "iter") rfl)
  have z_len : mg "len" = none := He.free_ok KX G (cd.fact 38 (f := .free "len") rfl)
  have z_list : mg "list" = none := He.free_ok KX G (cd.fact 39 (f := .free "list") rfl)
  have z_max : mg "max" = none := He.free_ok KX G (cd.fact 40 (f := .free "max") rfl)
  have z_min : mg "min" = none := He.free_ok KX G (cd.fact 41 (f := .free "min") rfl)
  have z_range : mg "range" = none := He.free_ok KX G (cd.fact 42 (f := .free "range") rfl)
  have z_sum : mg "sum" = none := He.free_ok KX G (cd.fact 43 (f := .free "sum") rfl)
  have z_tuple : mg "tuple" = none := He.free_ok KX G (cd.fact 44 (f := .free "tuple") rfl)
  have c_NARROW : ∃ t, mg "NARROW" = some (.str " .,':;!|ijl" t) := He.str_ok KX G (cd.fact 45 (f := .str "NARROW" " .,':;!|ijl") rfl)
  have c_WIDE : ∃ t, mg "WIDE" = some (.str "mwMW@" t) := He.str_ok KX G (cd.fact 46 (f := .str "WIDE" "mwMW@") rfl)
  refine ⟨q_law, d_law, F_law, fun base hb hg => ?_⟩
  have h_advance := ok_advance (P := P) (w := w) (mg := mg) (base := base) F_advance q_advance c_NARROW c_WIDE
  have h_offsets := ok_offsets (P := P) (w := w) (mg := mg) (base := base) F_offsets q_offsets h_advance
  have h_paragraphs := ok_paragraphs (P := P) (w := w) (mg := mg) (base := base) F_paragraphs q_paragraphs z_len
  have h_words := ok_words (P := P) (w := w) (mg := mg) (base := base) F_words q_words z_min z_len z_range z_max
  have h__break_paragraph := ok__break_paragraph (P := P) (w := w) (mg := mg) (base := base) F__break_paragraph q__break_paragraph
  have h_break_lines := ok_break_lines (P := P) (w := w) (mg := mg) (base := base) F_break_lines q_break_lines h_offsets h_paragraphs h__break_paragraph h_words
  have h_ends_paragraph := ok_ends_paragraph (P := P) (w := w) (mg := mg) (base := base) F_ends_paragraph q_ends_paragraph
  have h__widen_spaces := ok__widen_spaces (P := P) (w := w) (mg := mg) (base := base) F__widen_spaces q__widen_spaces z_divmod z_enumerate
  have h_place_line := ok_place_line (P := P) (w := w) (mg := mg) (base := base) F_place_line q_place_line h_offsets h_ends_paragraph h__widen_spaces z_max
  have h_Setting___init__ := ok_Setting___init__ (P := P) (w := w) (mg := mg) (base := base) F_Setting___init__ kC_Setting n_Setting_string n_Setting_size n_Setting_lead n_Setting_width n_Setting_align n_Setting_lines n_Setting___len__ n_Setting___length_hint__ h_break_lines q_Setting___init__ q_Setting
  have h_Setting___iter__ := ok_Setting___iter__ (P := P) (w := w) (mg := mg) (base := base) F_Setting___iter__ kC_Setting n_Setting_string n_Setting_size n_Setting_lead n_Setting_width n_Setting_align n_Setting_lines n_Setting___len__ n_Setting___length_hint__ z_iter q_Setting___iter__
  have h_Setting_places := ok_Setting_places (P := P) (w := w) (mg := mg) (base := base) F_Setting_places kC_Setting n_Setting_string n_Setting_size n_Setting_lead n_Setting_width n_Setting_align n_Setting_lines n_Setting___len__ n_Setting___length_hint__ h_place_line q_Setting_places
  have h_Setting_line_of := ok_Setting_line_of (P := P) (w := w) (mg := mg) (base := base) F_Setting_line_of kC_Setting n_Setting_string n_Setting_size n_Setting_lead n_Setting_width n_Setting_align n_Setting_lines n_Setting___len__ n_Setting___length_hint__ z_max z_len q_Setting_line_of
  have h_Setting__top := ok_Setting__top (P := P) (w := w) (mg := mg) (base := base) F_Setting__top kC_Setting n_Setting_string n_Setting_size n_Setting_lead n_Setting_width n_Setting_align n_Setting_lines n_Setting___len__ n_Setting___length_hint__ q_Setting__top
  have h_Setting_caret := ok_Setting_caret (P := P) (w := w) (mg := mg) (base := base) F_Setting_caret kC_Setting n_Setting_string n_Setting_size n_Setting_lead n_Setting_width n_Setting_align n_Setting_lines n_Setting___len__ n_Setting___length_hint__ h_Setting_line_of h_Setting__top h_Setting_places z_min z_max q_Setting_caret
  have h_Setting_index_near := ok_Setting_index_near (P := P) (w := w) (mg := mg) (base := base) F_Setting_index_near kC_Setting n_Setting_string n_Setting_size n_Setting_lead n_Setting_width n_Setting_align n_Setting_lines n_Setting___len__ n_Setting___length_hint__ h_Setting_places z_max z_min z_len z_enumerate z_abs q_Setting_index_near
  have h__law_cell := ok__law_cell (P := P) (w := w) (mg := mg) (base := base) F__law_cell q__law_cell z_len
  have h__law_mixed := ok__law_mixed (P := P) (w := w) (mg := mg) (base := base) F__law_mixed q__law_mixed z_int
  have h__law_source := ok__law_source (P := P) (w := w) (mg := mg) (base := base) F__law_source q__law_source h__law_mixed
  have h__law_chars := ok__law_chars (P := P) (w := w) (mg := mg) (base := base) F__law_chars q__law_chars
  have h__law_piece := ok__law_piece (P := P) (w := w) (mg := mg) (base := base) F__law_piece q__law_piece h__law_chars h__law_mixed z_range z_int
  have h__law_text := ok__law_text (P := P) (w := w) (mg := mg) (base := base) F__law_text q__law_text h__law_source h__law_cell h__law_piece z_range z_int
  have h__law_advance := ok__law_advance (P := P) (w := w) (mg := mg) (base := base) F__law_advance q__law_advance
  have h__law_extent := ok__law_extent (P := P) (w := w) (mg := mg) (base := base) F__law_extent q__law_extent h__law_advance z_sum
  have h__law_room := ok__law_room (P := P) (w := w) (mg := mg) (base := base) F__law_room q__law_room h__law_source h__law_extent z_int z_len z_min z_max
  have h__law_is_integer := ok__law_is_integer (P := P) (w := w) (mg := mg) (base := base) F__law_is_integer q__law_is_integer z_isinstance z_int z_bool
  have h__law_is_last := ok__law_is_last (P := P) (w := w) (mg := mg) (base := base) F__law_is_last q__law_is_last z_range z_len
  have h__law_places := ok__law_places (P := P) (w := w) (mg := mg) (base := base) F__law_places q__law_places h__law_extent h__law_is_last h__law_advance z_max
  have h__law_line_of := ok__law_line_of (P := P) (w := w) (mg := mg) (base := base) F__law_line_of q__law_line_of z_range z_len
  have h__law_indexes := ok__law_indexes (P := P) (w := w) (mg := mg) (base := base) F__law_indexes q__law_indexes z_len z_list z_range z_int
  have h_law := ok_law (P := P) (w := w) (mg := mg) (base := base) F_law kC_Setting n_Setting_string n_Setting_size n_Setting_lead n_Setting_width n_Setting_align n_Setting_lines n_Setting___len__ n_Setting___length_hint__ h__law_text h__law_source h__law_cell h__law_room h_Setting___init__ h__law_indexes h_Setting_line_of h__law_line_of h__law_places h_Setting_caret h__law_is_integer h_Setting_index_near h_Setting___iter__ z_int z_list z_min z_isinstance z_tuple z_max
  exact h_law
end Q
open PySem PySem.W PySem.Calls PyProof.Rows
set_option maxHeartbeats 0 in
theorem PySem.Challenge.cw_quirekiln_k19_caret_and_back_holds : PySem.Challenge.rw_quirekiln_k19_caret_and_back.Holds := by
  w_on; o_law
  refine HandSHeadRun.head_any (r := OpenLaw.row PySem.Challenge.rw_quirekiln_k19_caret_and_back) (q := view (OpenLaw.row PySem.Challenge.rw_quirekiln_k19_caret_and_back).prog [31]) (H := Q.hk) (ob := Q.ob) (M := 2760) (loose := ["_wall", "NARROW", "WIDE", "advance", "offsets", "paragraphs", "words", "break_lines", "ends_paragraph", "place_line", "_break_paragraph", "_widen_spaces", "Setting", "_law_cell", "_law_mixed", "_law_source", "_law_chars", "_law_piece", "_law_text", "_law_advance", "_law_extent", "_law_room", "_law_is_integer", "_law_is_last", "_law_places", "_law_line_of", "_law_indexes"]) (d := HandSHeadRun.topDef (OpenLaw.row PySem.Challenge.rw_quirekiln_k19_caret_and_back).prog 31) (kwd := []) Q.ob_eq
    (by kernel_rfl) (fun s => by kernel_rfl) Q.run (by kernel_rfl) (by kernel_rfl) (by kernel_rfl) (by rfl) (by first | assumption | decide +kernel) (by decide +kernel) ⟨rfl, rfl, rfl, rfl, rfl, by decide +kernel⟩ ?hw ?hc
  case hw => w_witness2
  case hc =>
    exact DL.walk_end (l := PySem.Challenge.rw_quirekiln_k19_caret_and_back) (k := 6) (st := Q.s_law) rfl (by kernel_rfl) ⟨rfl, by decide, by decide⟩ (by kernel_rfl) (fun _ _ _ _ _ _ us hl => match us, hl with | [_], _ => rfl) (fun w mg K h KX G c => Q.facts w mg K h KX G c)
