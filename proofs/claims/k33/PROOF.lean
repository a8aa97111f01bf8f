import PyProof.Rows.All
import Wide.All
import OpenK.AllK
import Wide.FinOn
import HandS.ForMost
import HandS.Walk
import HandS.Evl
import HandS.Flow
import HandS.IsInst
import HandS.SortInts
import KE.DataEq
import HandS.ForExc
import HandS.Defaults
import HandS.Head0
import HandS.Head1
import HandS.Head2
import HandS.HeadEnd
import HandS.HeadHook1
import HandS.HeadHook2
import HandS.HeadHook3
import HandS.HeadHook4
import HandS.More
import HandS.Style
import KE.SortData
import HandS.Strs
import HandS.Comp
import HandS.SetBool
import HandS.Dict
import HandS.TupLen
import HandS.WordsDict
import HandS.Iter
import HandS.Star
import HandS.Text
import HandS.Codes
import PyProof.StrOps2
import HandS.StrMore
import PyProof.Rows.StrCountLaw
import PyProof.Rows.StrCut
import PyProof.StrLawsFrom
import PyProof.Draws
import PyProof.EnumMake
import HandS.GenList
import KE.KDictCopyH
import HandS.Wide
import HandS.DictComp
import HandS.Flt
import KE.LtData
import KE.KDictZip
import HandS.MakeKwOnly
import HandS.OwnIter
import HandS.IterNext
import HandS.Property
import HandS.Conv
import PyProof.StrLawsLast
import KE.KUnpack
import PyProof.CollectIter
import PySem.Challenge.RW_quirekiln_k33_weight_of_a_selector
set_option Elab.async false
set_option linter.all false
set_option maxRecDepth 100000
set_option maxHeartbeats 2000000
/-! The data layer: what a piece of a def does, told by data (PyData) and by a small symbolic store, over the readings of HandS. -/
namespace DL
open PySem L2

/-! ### data at an address -/
def SqK (K : PySem.W.Frag) (a : Addr) (xs : List V) : Prop :=
  ∃ (o : Obj) (its : Array Value) (n : Nat), K.lookup a = some o ∧ o.cls = .type "list" ∧ o.dict = none ∧ o.data = .seq its n ∧ its.size ≤ sizeLine ∧ Vals xs its.toList
/-- a key as data -/
def kdat : Key → PyData
  | .inl i => .int i
  | .inr x => .str x
def tdat (ks : List Key) : PyData := .tuple (ks.map kdat)
mutual
/-- v stands for the data d at the heap H; no list and no dict of it lies at an address of N -/
inductive Dn (K : PySem.W.Frag) (N : Addr → Prop) (H : Hp) : V → PyData → Prop
  | non : Dn K N H .non .none
  | bl (b : Bool) : Dn K N H (.bl b) (.bool b)
  | int (i : Int) : Dn K N H (.int i) (.int i)
  | str (x : Str) : Dn K N H (.str x) (.str x)
  | lst {a : Addr} {xs : List V} {ds : List PyData} : Rd H a (.lst xs) → ¬ N a → DnAll K N H xs ds → Dn K N H (.ref a) (.list ds)
  | lstK {a : Addr} {xs : List V} {ds : List PyData} : SqK K a xs → DnAll K N H xs ds → Dn K N H (.ref a) (.list ds)
  | tup {a : Addr} {xs : List V} {ds : List PyData} : SqT K H a xs → DnAll K N H xs ds → Dn K N H (.ref a) (.tuple ds)
  | dkk {a : Addr} {ws : List (Key × V)} {kvs : List (PyData × PyData)} : Rd H a (.dK ws) → ¬ N a → DnPs K N H (ws.map fun p => (kdat p.1, p.2)) kvs → Dn K N H (.ref a) (.dict kvs)
  | dkt {a : Addr} {ws : List (List Key × V)} {kvs : List (PyData × PyData)} : H a = some (.dT ws) → ¬ N a → DnPs K N H ((.none, .non) :: ws.map fun p => (tdat p.1, p.2)) kvs → Dn K N H (.ref a) (.dict kvs)
inductive DnAll (K : PySem.W.Frag) (N : Addr → Prop) (H : Hp) : List V → List PyData → Prop
  | nil : DnAll K N H [] []
  | cons {v : V} {vs : List V} {d : PyData} {ds : List PyData} : Dn K N H v d → DnAll K N H vs ds → DnAll K N H (v :: vs) (d :: ds)
inductive DnPs (K : PySem.W.Frag) (N : Addr → Prop) (H : Hp) : List (PyData × V) → List (PyData × PyData) → Prop
  | nil : DnPs K N H [] []
  | cons {k : PyData} {v : V} {vs : List (PyData × V)} {d : PyData} {ds : List (PyData × PyData)} : Dn K N H v d → DnPs K N H vs ds → DnPs K N H ((k, v) :: vs) ((k, d) :: ds)
end

section
variable {K : PySem.W.Frag} {N N' : Addr → Prop} {H H' : Hp}
mutual
theorem Dn.go (hl : ∀ a u, Rd H a u → ¬ N a → Rd H' a u ∧ ¬ N' a) (hw : ∀ a u, H a = some u → ¬ N a → H' a = some u) (ht : ∀ a xs, SqT K H a xs → SqT K H' a xs) : ∀ (d : PyData) (v : V), Dn K N H v d → Dn K N' H' v d
  | .none, _, h => by cases h; exact .non
  | .bool b, _, h => by cases h; exact .bl b
  | .int i, _, h => by cases h; exact .int i
  | .str x, _, h => by cases h; exact .str x
  | .list ds, _, h => by
    cases h with
    | lst r n a => exact .lst (hl _ _ r n).1 (hl _ _ r n).2 (DnAll.go hl hw ht ds _ a)
    | lstK r a => exact .lstK r (DnAll.go hl hw ht ds _ a)
  | .tuple ds, _, h => by
    cases h with
    | tup r a => exact .tup (ht _ _ r) (DnAll.go hl hw ht ds _ a)
  | .dict kvs, _, h => by
    cases h with
    | dkk r n a => exact .dkk (hl _ _ r n).1 (hl _ _ r n).2 (DnPs.go hl hw ht kvs _ a)
    | dkt r n a => exact .dkt (hw _ _ r n) (hl _ _ (Or.inl r) n).2 (DnPs.go hl hw ht kvs _ a)
theorem DnAll.go (hl : ∀ a u, Rd H a u → ¬ N a → Rd H' a u ∧ ¬ N' a) (hw : ∀ a u, H a = some u → ¬ N a → H' a = some u) (ht : ∀ a xs, SqT K H a xs → SqT K H' a xs) : ∀ (ds : List PyData) (vs : List V), DnAll K N H vs ds → DnAll K N' H' vs ds
  | [], _, h => by cases h; exact .nil
  | d :: ds, _, h => by
    cases h with
    | cons a b => exact .cons (Dn.go hl hw ht d _ a) (DnAll.go hl hw ht ds _ b)
theorem DnPs.go (hl : ∀ a u, Rd H a u → ¬ N a → Rd H' a u ∧ ¬ N' a) (hw : ∀ a u, H a = some u → ¬ N a → H' a = some u) (ht : ∀ a xs, SqT K H a xs → SqT K H' a xs) : ∀ (ds : List (PyData × PyData)) (vs : List (PyData × V)), DnPs K N H vs ds → DnPs K N' H' vs ds
  | [], _, h => by cases h; exact .nil
  | (k, d) :: ds, _, h => by
    cases h with
    | cons a b => exact .cons (Dn.go hl hw ht d _ a) (DnPs.go hl hw ht ds _ b)
end
end
mutual
/-- no list in it -/
def noList : PyData → Bool
  | .list _ => false
  | .tuple ds => noLists ds
  | .dict _ => false
  | _ => true
def noLists : List PyData → Bool
  | [] => true
  | d :: ds => noList d && noLists ds
end
section
variable {K : PySem.W.Frag} {N N' : Addr → Prop} {H H' : Hp}
mutual
theorem Dn.goF (ht : ∀ a xs, SqT K H a xs → SqT K H' a xs) : ∀ (d : PyData) (v : V), noList d = true → Dn K N H v d → Dn K N' H' v d
  | .none, _, _, h => by cases h; exact .non
  | .bool b, _, _, h => by cases h; exact .bl b
  | .int i, _, _, h => by cases h; exact .int i
  | .str x, _, _, h => by cases h; exact .str x
  | .list ds, _, q, _ => by simp [noList] at q
  | .tuple ds, _, q, h => by
    cases h with
    | tup r a => exact .tup (ht _ _ r) (DnAll.goF ht ds _ (by simpa [noList] using q) a)
  | .dict _, _, q, _ => by simp [noList] at q
theorem DnAll.goF (ht : ∀ a xs, SqT K H a xs → SqT K H' a xs) : ∀ (ds : List PyData) (vs : List V), noLists ds = true → DnAll K N H vs ds → DnAll K N' H' vs ds
  | [], _, _, h => by cases h; exact .nil
  | d :: ds, _, q, h => by
    cases h with
    | cons a b =>
      have q' : noList d = true ∧ noLists ds = true := by simpa [noLists] using q
      exact .cons (Dn.goF ht d _ q'.1 a) (DnAll.goF ht ds _ q'.2 b)
end
mutual
theorem Dn.dp : ∀ (d : PyData) (v : V), d.plain = true → Dn K N H v d → Dp K H v d
  | .none, _, _, h => by cases h; exact .non
  | .bool b, _, _, h => by cases h; exact .bl b
  | .int i, _, _, h => by cases h; exact .int i
  | .str x, _, _, h => by cases h; exact .str x
  | .list ds, _, q, h => by
    cases h with
    | lst r n a => exact .lst (Or.inl r) (DnAll.dp ds _ (by simpa [PyData.plain] using q) a)
    | lstK r a => exact .lst (Or.inr r) (DnAll.dp ds _ (by simpa [PyData.plain] using q) a)
  | .tuple ds, _, q, h => by
    cases h with
    | tup r a => exact .tup r (DnAll.dp ds _ (by simpa [PyData.plain] using q) a)
  | .dict _, _, q, _ => by simp [PyData.plain] at q
theorem DnAll.dp : ∀ (ds : List PyData) (vs : List V), PyData.plainAll ds = true → DnAll K N H vs ds → DpAll K H vs ds
  | [], _, _, h => by cases h; exact .nil
  | d :: ds, _, q, h => by
    cases h with
    | cons a b =>
      have q' : d.plain = true ∧ PyData.plainAll ds = true := by simpa [PyData.plainAll] using q
      exact .cons (Dn.dp d _ q'.1 a) (DnAll.dp ds _ q'.2 b)
end
theorem DnAll.length : ∀ {vs : List V} {ds : List PyData}, DnAll K N H vs ds → vs.length = ds.length
  | _, _, .nil => rfl
  | _, _, .cons _ t => congrArg (· + 1) (DnAll.length t)
theorem DnAll.get : ∀ {vs : List V} {ds : List PyData} {i : Nat} {d : PyData}, DnAll K N H vs ds → ds[i]? = some d → ∃ v, vs[i]? = some v ∧ Dn K N H v d
  | _, _, _, _, .nil, e => by simp at e
  | _, _, 0, _, .cons r _, e => by simp at e; subst e; exact ⟨_, rfl, r⟩
  | _, _, i + 1, _, .cons _ t, e => by
    obtain ⟨v, h1, h2⟩ := DnAll.get (i := i) t (by simpa using e)
    exact ⟨v, by simpa using h1, h2⟩
theorem DnAll.getV : ∀ {vs : List V} {ds : List PyData} {i : Nat} {v : V}, DnAll K N H vs ds → vs[i]? = some v → ∃ d, ds[i]? = some d ∧ Dn K N H v d
  | _, _, _, _, .nil, e => by simp at e
  | _, _, 0, _, .cons r _, e => by simp at e; subst e; exact ⟨_, rfl, r⟩
  | _, _, i + 1, _, .cons _ t, e => by
    obtain ⟨v, h1, h2⟩ := DnAll.getV (i := i) t (by simpa using e)
    exact ⟨v, by simpa using h1, h2⟩
theorem DnAll.append : ∀ {vs ws : List V} {ds es : List PyData}, DnAll K N H vs ds → DnAll K N H ws es → DnAll K N H (vs ++ ws) (ds ++ es)
  | _, _, _, _, .nil, s => s
  | _, _, _, _, .cons r t, s => .cons r (DnAll.append t s)
theorem DnAll.take : ∀ {vs : List V} {ds : List PyData} (n : Nat), DnAll K N H vs ds → DnAll K N H (vs.take n) (ds.take n)
  | _, _, 0, _ => .nil
  | _, _, _ + 1, .nil => .nil
  | _, _, n + 1, .cons r t => .cons r (DnAll.take n t)
theorem DnAll.drop : ∀ {vs : List V} {ds : List PyData} (n : Nat), DnAll K N H vs ds → DnAll K N H (vs.drop n) (ds.drop n)
  | _, _, 0, r => r
  | _, _, _ + 1, .nil => .nil
  | _, _, n + 1, .cons _ t => DnAll.drop n t
theorem DnAll.reverse : ∀ {vs : List V} {ds : List PyData}, DnAll K N H vs ds → DnAll K N H vs.reverse ds.reverse
  | _, _, .nil => .nil
  | _, _, .cons r t => by rw [List.reverse_cons, List.reverse_cons]; exact DnAll.append (DnAll.reverse t) (.cons r .nil)
theorem DnAll.ints : ∀ {vs : List V} {ns : List Int}, DnAll K N H vs (ns.map PyData.int) → vs = ns.map V.int
  | _, [], h => by cases h; rfl
  | _, n :: ns, h => by
    cases h with
    | cons a b => cases a; rw [DnAll.ints b]; rfl
theorem DnAll.bools : ∀ {vs : List V} {ns : List Bool}, DnAll K N H vs (ns.map PyData.bool) → vs = ns.map V.bl
  | _, [], h => by cases h; rfl
  | _, n :: ns, h => by
    cases h with
    | cons a b => cases a; rw [DnAll.bools b]; rfl
end

/-! ### heaps -/
open Evl (Ex Ex.refl Ex.trans Ex.new)
end DL
theorem Evl.Ex.rd {H H' : L2.Hp} {a : PySem.Addr} {u : L2.HO} (e : Evl.Ex H H') (h : L2.Rd H a u) : L2.Rd H' a u := Evl.ex_rd e h
theorem Evl.Ex.sqt {K : PySem.W.Frag} {H H' : L2.Hp} {a : PySem.Addr} {xs : List L2.V} (e : Evl.Ex H H') (h : L2.SqT K H a xs) : L2.SqT K H' a xs := Evl.ex_t e h
theorem Evl.Ex.sql {K : PySem.W.Frag} {H H' : L2.Hp} {a : PySem.Addr} {xs : List L2.V} (e : Evl.Ex H H') (h : L2.SqL K H a xs) : L2.SqL K H' a xs := Evl.ex_l e h
theorem Evl.Ex.free {H H' : L2.Hp} {p : PySem.Addr} (e : Evl.Ex H H') (h : H' p = none) : H p = none := Evl.fresh_back e h
theorem Evl.Ex.some {H H' : L2.Hp} {p : PySem.Addr} (e : Evl.Ex H H') (h : H p ≠ none) : H' p ≠ none := fun z => h (e.free z)
namespace DL
open PySem L2
open Evl (Ex Ex.refl Ex.trans Ex.new)
theorem Dn.ext {K : PySem.W.Frag} {N : Addr → Prop} {H H' : Hp} {v : V} {d : PyData} (e : Ex H H') (h : Dn K N H v d) : Dn K N H' v d :=
  Dn.go (fun _ _ r n => ⟨e.rd r, n⟩) (fun a u r _ => e a u r) (fun _ _ r => e.sqt r) d v h
theorem DnAll.ext {K : PySem.W.Frag} {N : Addr → Prop} {H H' : Hp} {v : List V} {d : List PyData} (e : Ex H H') (h : DnAll K N H v d) : DnAll K N H' v d :=
  DnAll.go (fun _ _ r n => ⟨e.rd r, n⟩) (fun a u r _ => e a u r) (fun _ _ r => e.sqt r) d v h
theorem Dn.sub {K : PySem.W.Frag} {N N' : Addr → Prop} {H : Hp} {v : V} {d : PyData} (e : ∀ a, N' a → N a) (h : Dn K N H v d) : Dn K N' H v d :=
  Dn.go (fun _ _ r n => ⟨r, fun z => n (e _ z)⟩) (fun _ _ r _ => r) (fun _ _ r => r) d v h
theorem DnAll.sub {K : PySem.W.Frag} {N N' : Addr → Prop} {H : Hp} {v : List V} {d : List PyData} (e : ∀ a, N' a → N a) (h : DnAll K N H v d) : DnAll K N' H v d :=
  DnAll.go (fun _ _ r n => ⟨r, fun z => n (e _ z)⟩) (fun _ _ r _ => r) (fun _ _ r => r) d v h
theorem Rd.some {H : Hp} {a : Addr} {u : HO} (h : Rd H a u) : H a ≠ none := by
  rcases h with h | ⟨o, h⟩
  · rw [h]; exact fun z => nomatch z
  · rw [h]; exact fun z => nomatch z
/-- an address that is free is not met -/
theorem Dn.add {K : PySem.W.Frag} {N : Addr → Prop} {H : Hp} {v : V} {d : PyData} {p : Addr} (hp : H p = none) (h : Dn K N H v d) : Dn K (fun a => N a ∨ a = p) H v d :=
  Dn.go (fun a _ r n => ⟨r, fun z => z.elim n fun q => by subst q; exact Rd.some r hp⟩) (fun _ _ r _ => r) (fun _ _ r => r) d v h
theorem DnAll.add {K : PySem.W.Frag} {N : Addr → Prop} {H : Hp} {v : List V} {d : List PyData} {p : Addr} (hp : H p = none) (h : DnAll K N H v d) : DnAll K (fun a => N a ∨ a = p) H v d :=
  DnAll.go (fun a _ r n => ⟨r, fun z => z.elim n fun q => by subst q; exact Rd.some r hp⟩) (fun _ _ r _ => r) (fun _ _ r => r) d v h
/-- what is no tuple and is not frozen -/
def Wr : HO → Bool
  | .tup _ => false
  | .frz _ _ => false
  | _ => true
theorem mut_t {K : PySem.W.Frag} {H : Hp} {p : Addr} {o o' : HO} (hp : H p = some o) (hw : Wr o = true) : ∀ a xs, SqT K H a xs → SqT K (upd H p o') a xs := by
  intro a xs h
  rcases h with (h | ⟨u, h⟩) | h
  · refine Or.inl (Or.inl ?_)
    rw [upd_ne]
    · exact h
    · intro z; subst z; rw [hp] at h; cases h; cases hw
  · refine Or.inl (Or.inr ⟨u, ?_⟩)
    rw [upd_ne]
    · exact h
    · intro z; subst z; rw [hp] at h; cases h; cases hw
  · exact Or.inr h
theorem Dn.mut {K : PySem.W.Frag} {N : Addr → Prop} {H : Hp} {v : V} {d : PyData} {p : Addr} {o o' : HO} (hp : H p = some o) (hw : Wr o = true) (hn : N p) (h : Dn K N H v d) : Dn K N (upd H p o') v d := by
  refine Dn.go (fun a xs r n => ⟨?_, n⟩) (fun a u r n => by rw [upd_ne (show a ≠ p from fun z => n (z ▸ hn))]; exact r) (mut_t hp hw) d v h
  have ne : a ≠ p := fun z => n (z ▸ hn)
  rcases r with r | ⟨u, r⟩
  · exact Or.inl (by rw [upd_ne ne]; exact r)
  · exact Or.inr ⟨u, by rw [upd_ne ne]; exact r⟩
theorem DnAll.mut {K : PySem.W.Frag} {N : Addr → Prop} {H : Hp} {v : List V} {d : List PyData} {p : Addr} {o o' : HO} (hp : H p = some o) (hw : Wr o = true) (hn : N p) (h : DnAll K N H v d) : DnAll K N (upd H p o') v d := by
  refine DnAll.go (fun a xs r n => ⟨?_, n⟩) (fun a u r n => by rw [upd_ne (show a ≠ p from fun z => n (z ▸ hn))]; exact r) (mut_t hp hw) d v h
  have ne : a ≠ p := fun z => n (z ▸ hn)
  rcases r with r | ⟨u, r⟩
  · exact Or.inl (by rw [upd_ne ne]; exact r)
  · exact Or.inr ⟨u, by rw [upd_ne ne]; exact r⟩

/-! ### the symbolic store -/
/-- an instance that is only read: its fields stand for the data m -/
def ObOk (K : PySem.W.Frag) (N : Addr → Prop) (H : Hp) (v : V) (C : Addr) (m : List (Str × PyData)) : Prop := ∃ (a dx : Addr) (fs : List (Str × V)), v = .ref a ∧ H a = some (.ins C dx fs) ∧ ¬ N a ∧ Paired (fun (p : Str × V) (q : Str × PyData) => p.1 = q.1 ∧ Dn K N H p.2 q.2) fs m
/-- a value: data, or the k-th object of the store -/
inductive SV where
  | i (d : PyData)
  | r (k : Nat)
  | t (u : HO)
  | ob (C : Addr) (m : List (Str × PyData))
/-- an object of the store; x: forgotten -/
inductive SO where
  | x
  | lst (xs : List SV)
  | dK (kvs : List (Key × SV))
  | dT (kvs : List (List Key × SV))
  | ho (f : Addr → HO)
  | nums
  | stt (k : Nat)
  | ob (C : Addr) (fs : List (Str × SV))
def SO.live : SO → Bool
  | .x => false
  | _ => true
abbrev Sy := List (Option SV)
def SvOk (K : PySem.W.Frag) (N : Addr → Prop) (ad : Nat → Addr) (n : Nat) (H : Hp) (v : V) : SV → Prop
  | .i d => Dn K N H v d
  | .t u => ∃ b, v = .ref b ∧ H b = some u ∧ Wr u = false
  | .ob C m => ObOk K N H v C m
  | .r k => v = .ref (ad k) ∧ k < n
def SoOk (K : PySem.W.Frag) (N : Addr → Prop) (ad : Nat → Addr) (n : Nat) (H : Hp) (l : Addr) : SO → Prop
  | .x => True
  | .lst xs => ∃ vs, H l = some (.lst vs) ∧ Paired (SvOk K N ad n H) vs xs
  | .dK kvs => ∃ ws, H l = some (.dK ws) ∧ Paired (fun (p : Key × V) (q : Key × SV) => p.1 = q.1 ∧ SvOk K N ad n H p.2 q.2) ws kvs
  | .dT kvs => ∃ ws, H l = some (.dT ws) ∧ Paired (fun (p : List Key × V) (q : List Key × SV) => p.1 = q.1 ∧ SvOk K N ad n H p.2 q.2) ws kvs
  | .ho f => H l = some (f l) ∧ Wr (f l) = true
  | .nums => ∃ ns : List Int, H l = some (.lst (ns.map V.int))
  | .stt k => ∃ (v : V) (a m : Int), H l = some (.lst [v, .int a, .int m]) ∧ SvOk K N ad n H v (.r k)
  | .ob C fs => ∃ (dx : Addr) (vs : List (Str × V)), H l = some (.ins C dx vs) ∧ Paired (fun (p : Str × V) (q : Str × SV) => p.1 = q.1 ∧ SvOk K N ad n H p.2 q.2) vs fs

structure Cn where
  K : PySem.W.Frag
  H0 : Hp
  N0 : Addr → Prop
  M : Addr → Prop := fun _ => False
  fr : List (V × SV) := []
  lo : Nat := 0
def Lv (os : List SO) (k : Nat) : Prop := ∃ o, os[k]? = some o ∧ o.live = true
def Nof (c : Cn) (ad : Nat → Addr) (os : List SO) : Addr → Prop := fun a => c.N0 a ∨ ∃ k, Lv os k ∧ a = ad k
structure Ok (c : Cn) (ad : Nat → Addr) (env : Sy) (os : List SO) (σ : St) (H : Hp) : Prop where
  len : σ.length = env.length
  ex : ∀ a o, c.H0 a = some o → ¬ c.M a → H a = some o
  n0 : ∀ a, c.N0 a → H a ≠ none
  val : ∀ (i : Nat) s, env[i]? = some (some s) → ∃ v, σ[i]? = some (some v) ∧ SvOk c.K (Nof c ad os) ad os.length H v s
  obj : ∀ (k : Nat) o, os[k]? = some o → o.live = true → (c.H0 (ad k) = none ∨ c.M (ad k)) ∧ SoOk c.K (Nof c ad os) ad os.length H (ad k) o
  inj : ∀ k j, Lv os k → Lv os j → ad k = ad j → k = j
  nn : ∀ k, Lv os k → ¬ c.N0 (ad k)
  frm : ∀ p ∈ c.fr, SvOk c.K (Nof c ad os) ad c.lo H p.1 p.2
  low : c.lo ≤ os.length

section
variable {c : Cn} {ad : Nat → Addr} {env : Sy} {os : List SO} {σ : St} {H H' : Hp}
theorem Paired.imp {α β : Type} {F G : α → β → Prop} : ∀ {l₁ : List α} {l₂ : List β}, Paired F l₁ l₂ → (∀ a b, F a b → G a b) → Paired G l₁ l₂
  | _, _, .nil, _ => .nil
  | _, _, .cons r t, f => .cons (f _ _ r) (Paired.imp t f)
theorem ObOk.ext {K : PySem.W.Frag} {N : Addr → Prop} {v : V} {C : Addr} {m : List (Str × PyData)} (e : Ex H H') (h : ObOk K N H v C m) : ObOk K N H' v C m := by
  obtain ⟨a, dx, fs, h1, h2, h3, h4⟩ := h
  exact ⟨a, dx, fs, h1, e _ _ h2, h3, Paired.imp h4 fun _ _ z => ⟨z.1, Dn.ext e z.2⟩⟩
theorem ObOk.sub {K : PySem.W.Frag} {N N' : Addr → Prop} {v : V} {C : Addr} {m : List (Str × PyData)} (e : ∀ a, N' a → N a) (h : ObOk K N H v C m) : ObOk K N' H v C m := by
  obtain ⟨a, dx, fs, h1, h2, h3, h4⟩ := h
  exact ⟨a, dx, fs, h1, h2, fun z => h3 (e _ z), Paired.imp h4 fun _ _ z => ⟨z.1, Dn.sub e z.2⟩⟩
theorem ObOk.mut {K : PySem.W.Frag} {N : Addr → Prop} {v : V} {C : Addr} {m : List (Str × PyData)} {p : Addr} {o o' : HO} (hp : H p = some o) (hw : Wr o = true) (hn : N p) (h : ObOk K N H v C m) : ObOk K N (upd H p o') v C m := by
  obtain ⟨a, dx, fs, h1, h2, h3, h4⟩ := h
  exact ⟨a, dx, fs, h1, by rw [upd_ne (show a ≠ p from fun z => h3 (z ▸ hn))]; exact h2, h3, Paired.imp h4 fun _ _ z => ⟨z.1, Dn.mut hp hw hn z.2⟩⟩
theorem ObOk.add {K : PySem.W.Frag} {N : Addr → Prop} {v : V} {C : Addr} {m : List (Str × PyData)} {p : Addr} (hp : H p = none) (h : ObOk K N H v C m) : ObOk K (fun a => N a ∨ a = p) H v C m := by
  obtain ⟨a, dx, fs, h1, h2, h3, h4⟩ := h
  refine ⟨a, dx, fs, h1, h2, fun z => z.elim h3 fun z => ?_, Paired.imp h4 fun _ _ z => ⟨z.1, Dn.add hp z.2⟩⟩
  rw [z, hp] at h2
  cases h2
theorem SvOk.ext {K : PySem.W.Frag} {N : Addr → Prop} {n : Nat} {v : V} {s : SV} (e : Ex H H') (h : SvOk K N ad n H v s) : SvOk K N ad n H' v s := by
  cases s with
  | i d => exact Dn.ext e h
  | t ks => obtain ⟨b, e1, e2⟩ := h; exact ⟨b, e1, e _ _ e2.1, e2.2⟩
  | ob C m => exact ObOk.ext e h
  | r k => exact h
theorem SvOk.sub {K : PySem.W.Frag} {N N' : Addr → Prop} {n : Nat} {v : V} {s : SV} (e : ∀ a, N' a → N a) (h : SvOk K N ad n H v s) : SvOk K N' ad n H v s := by
  cases s with
  | i d => exact Dn.sub e h
  | t ks => exact h
  | ob C m => exact ObOk.sub e h
  | r k => exact h
theorem SvOk.mut {K : PySem.W.Frag} {N : Addr → Prop} {n : Nat} {v : V} {s : SV} {p : Addr} {o o' : HO} (hp : H p = some o) (hw : Wr o = true) (hn : N p) (h : SvOk K N ad n H v s) : SvOk K N ad n (upd H p o') v s := by
  cases s with
  | i d => exact Dn.mut hp hw hn h
  | ob C m => exact ObOk.mut hp hw hn h
  | t ks =>
    obtain ⟨b, e1, e2, e3⟩ := h
    exact ⟨b, e1, by rw [upd_ne (show b ≠ p from fun z => by subst z; rw [hp] at e2; cases e2; rw [hw] at e3; cases e3)]; exact e2, e3⟩
  | r k => exact h
theorem SoOk.map {K : PySem.W.Frag} {N N' : Addr → Prop} {ad ad' : Nat → Addr} {n n' : Nat} {l : Addr} {o : SO} (f : ∀ v s, SvOk K N ad n H v s → SvOk K N' ad' n' H' v s) (hl : ∀ u, H l = some u → H' l = some u) (h : SoOk K N ad n H l o) : SoOk K N' ad' n' H' l o := by
  cases o with
  | x => exact True.intro
  | lst xs => obtain ⟨vs, e, p⟩ := h; exact ⟨vs, hl _ e, Paired.imp p f⟩
  | dK kvs => obtain ⟨vs, e, p⟩ := h; exact ⟨vs, hl _ e, Paired.imp p fun a b q => ⟨q.1, f _ _ q.2⟩⟩
  | dT kvs => obtain ⟨vs, e, p⟩ := h; exact ⟨vs, hl _ e, Paired.imp p fun a b q => ⟨q.1, f _ _ q.2⟩⟩
  | ho g => exact ⟨hl _ h.1, h.2⟩
  | nums => obtain ⟨ns, e⟩ := h; exact ⟨ns, hl _ e⟩
  | stt k => obtain ⟨v, a, m, e, r⟩ := h; exact ⟨v, a, m, hl _ e, f _ _ r⟩
  | ob C fs => obtain ⟨dx, vs, e, p⟩ := h; exact ⟨dx, vs, hl _ e, Paired.imp p fun a b q => ⟨q.1, f _ _ q.2⟩⟩
theorem SoOk.some {K : PySem.W.Frag} {N : Addr → Prop} {n : Nat} {l : Addr} {o : SO} (h : SoOk K N ad n H l o) (hl : o.live = true) : ∃ u, H l = some u ∧ Wr u = true := by
  cases o with
  | x => cases hl
  | lst xs => obtain ⟨vs, e, p⟩ := h; exact ⟨_, e, rfl⟩
  | dK kvs => obtain ⟨vs, e, p⟩ := h; exact ⟨_, e, rfl⟩
  | dT kvs => obtain ⟨vs, e, p⟩ := h; exact ⟨_, e, rfl⟩
  | ho g => exact ⟨_, h.1, h.2⟩
  | nums => obtain ⟨ns, e⟩ := h; exact ⟨_, e, rfl⟩
  | stt k => obtain ⟨v, a, m, e, r⟩ := h; exact ⟨_, e, rfl⟩
  | ob C fs => obtain ⟨dx, vs, e, p⟩ := h; exact ⟨_, e, rfl⟩
theorem Ok.nof (ok : Ok c ad env os σ H) {a : Addr} (h : Nof c ad os a) : H a ≠ none := by
  rcases h with h | ⟨k, ⟨o, e, l⟩, rfl⟩
  · exact ok.n0 a h
  · obtain ⟨u, q, _⟩ := (ok.obj k o e l).2.some l
    rw [q]; exact fun z => nomatch z
theorem Ok.ext (ok : Ok c ad env os σ H) (e : Ex H H') : Ok c ad env os σ H' where
  len := ok.len
  ex := fun a o h m => e a o (ok.ex a o h m)
  n0 := fun a h => e.some (ok.n0 a h)
  val := fun i s h => let ⟨v, h1, h2⟩ := ok.val i s h; ⟨v, h1, h2.ext e⟩
  obj := fun k o h l => let ⟨h1, h2⟩ := ok.obj k o h l; ⟨h1, h2.map (fun _ _ q => q.ext e) fun u q => e _ _ q⟩
  inj := ok.inj
  nn := ok.nn
  frm := fun p hp => (ok.frm p hp).ext e
  low := ok.low
theorem Ok.set {i : Nat} {v : V} {s : SV} (ok : Ok c ad env os σ H) (h : SvOk c.K (Nof c ad os) ad os.length H v s) : Ok c ad (env.set i (some s)) os (σ.set i (some v)) H where
  len := by simp [ok.len]
  ex := ok.ex
  n0 := ok.n0
  val := fun j t e => by
    by_cases q : i = j
    · subst q
      by_cases hi : i < env.length
      · rw [List.getElem?_set_self hi] at e
        have e' : s = t := Option.some.inj (Option.some.inj e)
        subst e'
        exact ⟨v, List.getElem?_set_self (by rw [ok.len]; exact hi), h⟩
      · rw [List.getElem?_eq_none (by simp; omega)] at e
        cases e
    · rw [List.getElem?_set_ne q] at e
      obtain ⟨w, h1, h2⟩ := ok.val j t e
      exact ⟨w, by rw [List.getElem?_set_ne q]; exact h1, h2⟩
  obj := ok.obj
  inj := ok.inj
  nn := ok.nn
  frm := ok.frm
  low := ok.low
/-- a slot is forgotten -/
theorem Ok.setU {i : Nat} {v : Option V} (ok : Ok c ad env os σ H) : Ok c ad (env.set i none) os (σ.set i v) H where
  len := by simp [ok.len]
  ex := ok.ex
  n0 := ok.n0
  val := fun j t e => by
    by_cases q : i = j
    · subst q
      by_cases hi : i < env.length
      · rw [List.getElem?_set_self hi] at e
        cases Option.some.inj e
      · rw [List.getElem?_eq_none (by simp; omega)] at e
        cases e
    · rw [List.getElem?_set_ne q] at e
      obtain ⟨w, h1, h2⟩ := ok.val j t e
      exact ⟨w, by rw [List.getElem?_set_ne q]; exact h1, h2⟩
  obj := ok.obj
  inj := ok.inj
  nn := ok.nn
  frm := ok.frm
  low := ok.low

/-! ### more in the store -/
def adN (ad : Nat → Addr) (n : Nat) (p : Addr) : Nat → Addr := fun j => if j = n then p else ad j
theorem adN_same {n : Nat} {p : Addr} : adN ad n p n = p := by unfold adN; rw [if_pos rfl]
theorem adN_ne {n j : Nat} {p : Addr} (h : j ≠ n) : adN ad n p j = ad j := by unfold adN; rw [if_neg h]
theorem SvOk.adN {K : PySem.W.Frag} {N : Addr → Prop} {n : Nat} {v : V} {s : SV} {p : Addr} (h : SvOk K N ad n H v s) : SvOk K N (adN ad n p) (n + 1) H v s := by
  cases s with
  | i d => exact h
  | t ks => exact h
  | ob C m => exact h
  | r k => exact ⟨by rw [adN_ne (by have := h.2; omega)]; exact h.1, by have := h.2; omega⟩
theorem Lv_app {o : SO} {k : Nat} (h : Lv (os ++ [o]) k) : (Lv os k ∧ k < os.length) ∨ (k = os.length ∧ o.live = true) := by
  obtain ⟨u, e, l⟩ := h
  by_cases hk : k < os.length
  · rw [List.getElem?_append_left hk] at e
    exact Or.inl ⟨⟨u, e, l⟩, hk⟩
  · have hk2 : k = os.length := by
      have := (List.getElem?_eq_some_iff.mp e).1
      simp at this
      omega
    subst hk2
    rw [List.getElem?_append_right (Nat.le_refl _)] at e
    simp at e
    subst e
    exact Or.inr ⟨rfl, l⟩
theorem Nof_app {o : SO} {p : Addr} {a : Addr} (h : Nof c (adN ad os.length p) (os ++ [o]) a) : Nof c ad os a ∨ a = p := by
  rcases h with h | ⟨k, l, e⟩
  · exact Or.inl (Or.inl h)
  · rcases Lv_app l with ⟨l', hk⟩ | ⟨rfl, _⟩
    · rw [adN_ne (by omega)] at e
      exact Or.inl (Or.inr ⟨k, l', e⟩)
    · rw [adN_same] at e
      exact Or.inr e
/-- a new object -/
theorem Ok.new {o : SO} {p : Addr} (ok : Ok c ad env os σ H) (hp : H p = none) (e : Ex H H') (h0 : c.H0 p = none ∨ c.M p)
    (ho : SoOk c.K (fun a => Nof c ad os a ∨ a = p) ad os.length H' p o) : Ok c (adN ad os.length p) env (os ++ [o]) σ H' := by
  have hN : ∀ a, Nof c (adN ad os.length p) (os ++ [o]) a → Nof c ad os a ∨ a = p := fun a h => Nof_app h
  have hv : ∀ v s, SvOk c.K (Nof c ad os) ad os.length H v s → SvOk c.K (Nof c (adN ad os.length p) (os ++ [o])) (adN ad os.length p) (os ++ [o]).length H' v s := fun v s h => by
    have h1 : SvOk c.K (Nof c (adN ad os.length p) (os ++ [o])) ad os.length H' v s := by
      cases s with
      | i d => exact ((Dn.add hp h).sub hN).ext e
      | t ks => obtain ⟨b, e1, e2⟩ := h; exact ⟨b, e1, e _ _ e2.1, e2.2⟩
      | ob C m => exact ((ObOk.add hp h).sub hN).ext e
      | r k => exact h
    have h2 := h1.adN (p := p)
    simpa using h2
  have hv2 : ∀ v s, SvOk c.K (fun a => Nof c ad os a ∨ a = p) ad os.length H' v s → SvOk c.K (Nof c (adN ad os.length p) (os ++ [o])) (adN ad os.length p) (os ++ [o]).length H' v s := fun v s h => by
    have h2 := (h.sub hN).adN (p := p)
    simpa using h2
  refine ⟨ok.len, fun a u h m => e a u (ok.ex a u h m), fun a h => e.some (ok.n0 a h), fun i s h => ?_, fun k u h l => ?_, fun k j hk hj q => ?_, fun k hk => ?_, fun q hq => ?_, Nat.le_trans ok.low (by simp)⟩
  · obtain ⟨v, h1, h2⟩ := ok.val i s h
    exact ⟨v, h1, hv v s h2⟩
  · rcases Lv_app ⟨u, h, l⟩ with ⟨⟨u', e', l'⟩, hk⟩ | ⟨rfl, lo⟩
    · rw [List.getElem?_append_left hk] at h
      rw [adN_ne (by omega)]
      obtain ⟨h1, h2⟩ := ok.obj k u h l
      exact ⟨h1, h2.map hv fun w q => e _ _ q⟩
    · rw [List.getElem?_append_right (Nat.le_refl _)] at h
      simp at h
      subst h
      rw [adN_same]
      exact ⟨h0, ho.map hv2 fun w q => q⟩
  · rcases Lv_app hk with ⟨lk, hk'⟩ | ⟨rfl, _⟩
    · rcases Lv_app hj with ⟨lj, hj'⟩ | ⟨rfl, _⟩
      · rw [adN_ne (by omega), adN_ne (by omega)] at q
        exact ok.inj k j lk lj q
      · rw [adN_ne (by omega), adN_same] at q
        exact absurd hp (ok.nof (Or.inr ⟨k, lk, q.symm⟩))
    · rcases Lv_app hj with ⟨lj, hj'⟩ | ⟨rfl, _⟩
      · rw [adN_same, adN_ne (by omega)] at q
        exact absurd hp (ok.nof (Or.inr ⟨j, lj, q⟩))
      · rfl
  · rcases Lv_app hk with ⟨lk, hk'⟩ | ⟨rfl, _⟩
    · rw [adN_ne (by omega)]
      exact ok.nn k lk
    · rw [adN_same]
      intro z
      exact ok.n0 p z hp
  · have hf := ok.frm q hq
    obtain ⟨q1, q2⟩ := q
    cases q2 with
    | i d => exact ((Dn.add hp hf).sub hN).ext e
    | t ks => obtain ⟨b, e1, e2⟩ := hf; exact ⟨b, e1, e _ _ e2.1, e2.2⟩
    | ob C m => exact ((ObOk.add hp hf).sub hN).ext e
    | r k => exact ⟨by rw [adN_ne (by have h1 := hf.2; have h2 := ok.low; omega)]; exact hf.1, hf.2⟩
theorem Lv_set {o o' : SO} {k j : Nat} (h0 : os[k]? = some o) (l0 : o.live = true) (l : o'.live = true) : Lv (os.set k o') j ↔ Lv os j := by
  constructor
  · rintro ⟨u, e, hu⟩
    by_cases q : k = j
    · subst q; exact ⟨o, h0, l0⟩
    · rw [List.getElem?_set_ne q] at e; exact ⟨u, e, hu⟩
  · rintro ⟨u, e, hu⟩
    by_cases q : k = j
    · subst q; exact ⟨o', List.getElem?_set_self (List.getElem?_eq_some_iff.mp h0).1, l⟩
    · exact ⟨u, by rw [List.getElem?_set_ne q]; exact e, hu⟩
theorem Nof_set {o o' : SO} {k : Nat} (h0 : os[k]? = some o) (l0 : o.live = true) (l : o'.live = true) : Nof c ad (os.set k o') = Nof c ad os := by
  funext a
  refine propext ⟨fun h => ?_, fun h => ?_⟩
  · rcases h with h | ⟨j, lj, e⟩
    · exact Or.inl h
    · exact Or.inr ⟨j, (Lv_set h0 l0 l).mp lj, e⟩
  · rcases h with h | ⟨j, lj, e⟩
    · exact Or.inl h
    · exact Or.inr ⟨j, (Lv_set h0 l0 l).mpr lj, e⟩
/-- an object of the store is changed -/
theorem Ok.mut {o o' : SO} {k : Nat} {u' : HO} (ok : Ok c ad env os σ H) (h0 : os[k]? = some o) (l0 : o.live = true) (l : o'.live = true)
    (ho : SoOk c.K (Nof c ad os) ad os.length (upd H (ad k) u') (ad k) o') : Ok c ad env (os.set k o') σ (upd H (ad k) u') := by
  obtain ⟨hk0, hk1⟩ := ok.obj k o h0 l0
  obtain ⟨u, eu, wu⟩ := hk1.some l0
  have hN : Nof c ad os (ad k) := Or.inr ⟨k, ⟨o, h0, l0⟩, rfl⟩
  have hv : ∀ v s, SvOk c.K (Nof c ad os) ad os.length H v s → SvOk c.K (Nof c ad (os.set k o')) ad (os.set k o').length (upd H (ad k) u') v s := fun v s h => by
    rw [Nof_set h0 l0 l, List.length_set]
    exact h.mut eu wu hN
  refine ⟨ok.len, fun a w h m => ?_, fun a h => ?_, fun i s h => ?_, fun j w h lw => ?_, fun i j hi hj q => ok.inj i j ((Lv_set h0 l0 l).mp hi) ((Lv_set h0 l0 l).mp hj) q, fun j hj => ok.nn j ((Lv_set h0 l0 l).mp hj), fun q hq => ?_, by rw [List.length_set]; exact ok.low⟩
  · by_cases q : a = ad k
    · subst q
      rcases hk0 with z | z
      · rw [z] at h; cases h
      · exact absurd z m
    · rw [upd_ne q]; exact ok.ex a w h m
  · by_cases q : a = ad k
    · rw [q, upd_same]; exact fun z => nomatch z
    · rw [upd_ne q]; exact ok.n0 a h
  · obtain ⟨v, h1, h2⟩ := ok.val i s h
    exact ⟨v, h1, hv v s h2⟩
  · by_cases q : k = j
    · subst q
      rw [List.getElem?_set_self (List.getElem?_eq_some_iff.mp h0).1] at h
      cases h
      rw [Nof_set h0 l0 l, List.length_set]
      exact ⟨hk0, ho⟩
    · rw [List.getElem?_set_ne q] at h
      obtain ⟨h1, h2⟩ := ok.obj j w h lw
      refine ⟨h1, h2.map hv fun x hx => ?_⟩
      rw [upd_ne]
      · exact hx
      · intro z
        exact q (ok.inj k j ⟨o, h0, l0⟩ ⟨w, h, lw⟩ z.symm)
  · rw [Nof_set h0 l0 l]
    exact (ok.frm q hq).mut eu wu hN

/-! ### less known -/
def WkE : Sy → Sy → Prop
  | [], [] => True
  | s :: e, t :: e' => (t = none ∨ s = t) ∧ WkE e e'
  | _, _ => False
def WkO : List SO → List SO → Prop
  | _, [] => True
  | o :: r, o' :: r' => (o' = .x ∨ o = o') ∧ WkO r r'
  | [], _ :: _ => False
theorem WkE.len : ∀ {e e' : Sy}, WkE e e' → e.length = e'.length
  | [], [], _ => rfl
  | _ :: _, _ :: _, h => congrArg (· + 1) (WkE.len h.2)
theorem WkE.get : ∀ {e e' : Sy} {i : Nat} {s : SV}, WkE e e' → e'[i]? = some (some s) → e[i]? = some (some s)
  | [], [], _, _, _, q => by simp at q
  | a :: e, b :: e', 0, s, h, q => by
    simp at q ⊢
    rcases h.1 with z | z
    · rw [z] at q; cases q
    · rw [z]; exact q
  | a :: e, b :: e', i + 1, s, h, q => by
    simp at q ⊢
    exact WkE.get h.2 q
theorem WkE.refl : ∀ e : Sy, WkE e e
  | [] => True.intro
  | _ :: e => ⟨Or.inr rfl, WkE.refl e⟩
theorem WkO.refl : ∀ e : List SO, WkO e e
  | [] => True.intro
  | _ :: e => ⟨Or.inr rfl, WkO.refl e⟩
theorem WkO.get : ∀ {e e' : List SO} {i : Nat} {s : SO}, WkO e e' → e'[i]? = some s → s.live = true → e[i]? = some s
  | _, [], _, _, _, q, _ => by simp at q
  | a :: e, b :: e', 0, s, h, q, l => by
    simp at q ⊢
    rcases h.1 with z | z
    · rw [z] at q; subst q; cases l
    · rw [z]; exact q
  | a :: e, b :: e', i + 1, s, h, q, l => by
    simp at q ⊢
    exact WkO.get h.2 q l
theorem WkO.lv {e e' : List SO} {k : Nat} (h : WkO e e') (l : Lv e' k) : Lv e k := by
  obtain ⟨o, q, lo⟩ := l
  exact ⟨o, h.get q lo, lo⟩
/-- no place n or above it is named -/
def SvLt (n : Nat) : SV → Prop
  | .i _ => True
  | .t _ => True
  | .ob _ _ => True
  | .r k => k < n
def SoLt (n : Nat) : SO → Prop
  | .x => True
  | .lst xs => ∀ s ∈ xs, SvLt n s
  | .dK kvs => ∀ p ∈ kvs, SvLt n p.2
  | .dT kvs => ∀ p ∈ kvs, SvLt n p.2
  | .ho _ => True
  | .nums => True
  | .stt k => k < n
  | .ob _ fs => ∀ p ∈ fs, SvLt n p.2
def EnLt (n : Nat) : Sy → Prop
  | [] => True
  | none :: e => EnLt n e
  | some s :: e => SvLt n s ∧ EnLt n e
def OsLt (n : Nat) : List SO → Prop
  | [] => True
  | o :: r => SoLt n o ∧ OsLt n r
theorem EnLt.get : ∀ {n : Nat} {e : Sy} {i : Nat} {s : SV}, EnLt n e → e[i]? = some (some s) → SvLt n s
  | _, [], _, _, _, q => by simp at q
  | n, none :: e, 0, s, h, q => by simp at q
  | n, some t :: e, 0, s, h, q => by simp at q; subst q; exact h.1
  | n, none :: e, i + 1, s, h, q => by simp at q; exact EnLt.get (e := e) h q
  | n, some t :: e, i + 1, s, h, q => by simp at q; exact EnLt.get h.2 q
theorem OsLt.get : ∀ {n : Nat} {e : List SO} {i : Nat} {s : SO}, OsLt n e → e[i]? = some s → SoLt n s
  | _, [], _, _, _, q => by simp at q
  | n, t :: e, 0, s, h, q => by simp at q; subst q; exact h.1
  | n, t :: e, i + 1, s, h, q => by simp at q; exact OsLt.get h.2 q
theorem Paired.impR {α β : Type} {F G : α → β → Prop} : ∀ {l₁ : List α} {l₂ : List β}, Paired F l₁ l₂ → (∀ a b, b ∈ l₂ → F a b → G a b) → Paired G l₁ l₂
  | _, _, .nil, _ => .nil
  | _, _, .cons r t, f => .cons (f _ _ (List.mem_cons_self ..) r) (Paired.impR t fun a b m => f a b (List.mem_cons_of_mem _ m))
theorem Ok.weak {env' : Sy} {os' : List SO} (ok : Ok c ad env os σ H) (he : WkE env env') (ho : WkO os os') (l1 : EnLt os'.length env') (l2 : OsLt os'.length os') (l3 : c.lo ≤ os'.length) : Ok c ad env' os' σ H := by
  have hN : ∀ a, Nof c ad os' a → Nof c ad os a := fun a h => by
    rcases h with h | ⟨k, l, e⟩
    · exact Or.inl h
    · exact Or.inr ⟨k, ho.lv l, e⟩
  have hv : ∀ v s, SvLt os'.length s → SvOk c.K (Nof c ad os) ad os.length H v s → SvOk c.K (Nof c ad os') ad os'.length H v s := fun v s l h => by
    cases s with
    | i d => exact Dn.sub hN h
    | t ks => exact h
    | ob C m => exact ObOk.sub hN h
    | r k => exact ⟨h.1, l⟩
  refine ⟨ok.len.trans he.len, ok.ex, ok.n0, fun i s h => ?_, fun k o h l => ?_, fun k j lk lj => ok.inj k j (ho.lv lk) (ho.lv lj), fun k lk => ok.nn k (ho.lv lk), fun p hp => (ok.frm p hp).sub hN, l3⟩
  · obtain ⟨v, h1, h2⟩ := ok.val i s (he.get h)
    exact ⟨v, h1, hv v s (l1.get h) h2⟩
  · obtain ⟨h1, h2⟩ := ok.obj k o (ho.get h l) l
    refine ⟨h1, ?_⟩
    have lt := l2.get h
    cases o with
    | x => exact True.intro
    | lst xs => obtain ⟨vs, e, p⟩ := h2; exact ⟨vs, e, Paired.impR p fun a b m q => hv _ _ (lt b m) q⟩
    | dK kvs => obtain ⟨vs, e, p⟩ := h2; exact ⟨vs, e, Paired.impR p fun a b m q => ⟨q.1, hv _ _ (lt b m) q.2⟩⟩
    | dT kvs => obtain ⟨vs, e, p⟩ := h2; exact ⟨vs, e, Paired.impR p fun a b m q => ⟨q.1, hv _ _ (lt b m) q.2⟩⟩
    | ho g => exact h2
    | nums => exact h2
    | stt k => obtain ⟨v, a, m, e, r⟩ := h2; exact ⟨v, a, m, e, hv _ _ lt r⟩
    | ob C fs => obtain ⟨dx, vs, e, p⟩ := h2; exact ⟨dx, vs, e, Paired.impR p fun a b m q => ⟨q.1, hv _ _ (lt b m) q.2⟩⟩
theorem paired_dn {K : PySem.W.Frag} {N : Addr → Prop} {n : Nat} : ∀ {vs : List V} {ds : List PyData}, Paired (SvOk K N ad n H) vs (ds.map SV.i) → DnAll K N H vs ds
  | _, [], h => by cases h; exact .nil
  | _, d :: ds, h => by
    cases h with
    | cons a b => exact .cons a (paired_dn b)
theorem dn_paired {K : PySem.W.Frag} {N : Addr → Prop} {n : Nat} : ∀ {vs : List V} {ds : List PyData}, DnAll K N H vs ds → Paired (SvOk K N ad n H) vs (ds.map SV.i)
  | _, _, .nil => .nil
  | _, _, .cons a b => .cons a (dn_paired b)
/-- a list of data is data from now on -/
theorem Ok.own {i k : Nat} {ds : List PyData} (ok : Ok c ad env os σ H) (hi : env[i]? = some (some (.r k))) (hk : os[k]? = some (.lst (ds.map SV.i))) :
    Ok c ad (env.set i (some (.i (.list ds)))) (os.set k .x) σ H := by
  have lk : Lv os k := ⟨_, hk, rfl⟩
  have hl : ∀ j, Lv (os.set k .x) j → Lv os j ∧ j ≠ k := fun j h => by
    obtain ⟨u, e, hu⟩ := h
    by_cases q : k = j
    · subst q
      rw [List.getElem?_set_self (List.getElem?_eq_some_iff.mp hk).1] at e
      cases e; cases hu
    · rw [List.getElem?_set_ne q] at e; exact ⟨⟨u, e, hu⟩, fun z => q z.symm⟩
  have hN : ∀ a, Nof c ad (os.set k .x) a → Nof c ad os a ∧ a ≠ ad k := fun a h => by
    rcases h with h | ⟨j, l, e⟩
    · exact ⟨Or.inl h, fun z => ok.nn k lk (z ▸ h)⟩
    · obtain ⟨l', ne⟩ := hl j l
      exact ⟨Or.inr ⟨j, l', e⟩, fun z => ne (ok.inj j k l' lk (e.symm.trans z))⟩
  have hv : ∀ v s, SvOk c.K (Nof c ad os) ad os.length H v s → SvOk c.K (Nof c ad (os.set k .x)) ad (os.set k .x).length H v s := fun v s h => by
    rw [List.length_set]
    exact h.sub fun a q => (hN a q).1
  obtain ⟨v0, hv0, e0, _⟩ := ok.val i _ hi
  obtain ⟨_, vs, hvs, pv⟩ := ok.obj k _ hk rfl
  have hd : Dn c.K (Nof c ad (os.set k .x)) H v0 (.list ds) := by
    rw [e0]
    exact .lst (Or.inl hvs) (fun z => (hN _ z).2 rfl) ((paired_dn pv).sub fun a q => (hN a q).1)
  refine ⟨by rw [List.length_set]; exact ok.len, ok.ex, ok.n0, fun j s h => ?_, fun j o h l => ?_, fun a b la lb => ok.inj a b (hl a la).1 (hl b lb).1, fun a la => ok.nn a (hl a la).1, fun p hp => (ok.frm p hp).sub fun a q => (hN a q).1, by rw [List.length_set]; exact ok.low⟩
  · by_cases q : i = j
    · subst q
      rw [List.getElem?_set_self (List.getElem?_eq_some_iff.mp hi).1] at h
      cases h
      exact ⟨v0, hv0, hd⟩
    · rw [List.getElem?_set_ne q] at h
      obtain ⟨v, h1, h2⟩ := ok.val j s h
      exact ⟨v, h1, hv v s h2⟩
  · by_cases q : k = j
    · subst q
      rw [List.getElem?_set_self (List.getElem?_eq_some_iff.mp hk).1] at h
      cases h; cases l
    · rw [List.getElem?_set_ne q] at h
      obtain ⟨h1, h2⟩ := ok.obj j o h l
      exact ⟨h1, h2.map hv fun u e => e⟩
/-- the same with other facts carried along -/
abbrev Cn.w (c : Cn) (fr : List (V × SV)) (lo : Nat) : Cn := ⟨c.K, c.H0, c.N0, c.M, fr, lo⟩
theorem SvOk.lift {K : PySem.W.Frag} {N : Addr → Prop} {n n' : Nat} {v : V} {s : SV} (e : n ≤ n') (h : SvOk K N ad n H v s) : SvOk K N ad n' H v s := by
  cases s with
  | i d => exact h
  | t ks => exact h
  | ob C m => exact h
  | r k => exact ⟨h.1, Nat.lt_of_lt_of_le h.2 e⟩
/-- facts are carried along from here -/
theorem Ok.pin {v : V} {s : SV} (ok : Ok c ad env os σ H) (h : SvOk c.K (Nof c ad os) ad os.length H v s) : Ok (c.w ((v, s) :: c.fr) os.length) ad env os σ H :=
  ⟨ok.len, ok.ex, ok.n0, ok.val, ok.obj, ok.inj, ok.nn, fun p hp => by
    rcases List.mem_cons.mp hp with z | z
    · subst z; exact h
    · exact (ok.frm p z).lift ok.low, Nat.le_refl _⟩
theorem Ok.pin0 (ok : Ok c ad env os σ H) : Ok (c.w c.fr os.length) ad env os σ H :=
  ⟨ok.len, ok.ex, ok.n0, ok.val, ok.obj, ok.inj, ok.nn, fun p hp => (ok.frm p hp).lift ok.low, Nat.le_refl _⟩
end
end DL

set_option Elab.async false
set_option linter.all false
set_option maxRecDepth 100000
set_option maxHeartbeats 2000000
/-! The data layer: judgements and rules. -/
namespace DL
open PySem L2
open Evl (Ex Ex.refl Ex.trans Ex.new)

/-! ### judgements -/
/-- what is avoided: all of the store, or (w) what the caller wants avoided alone -/
def Nw (w : Bool) (c : Cn) (ad : Nat → Addr) (os : List SO) : Addr → Prop := fun a => c.N0 a ∨ (w = false ∧ ∃ k, Lv os k ∧ a = ad k)
theorem Nw_false {c : Cn} {ad : Nat → Addr} {os : List SO} : Nw false c ad os = Nof c ad os := by
  funext a
  exact propext ⟨fun h => h.elim Or.inl fun z => Or.inr z.2, fun h => h.elim Or.inl fun z => Or.inr ⟨rfl, z⟩⟩
theorem Nw_le {w : Bool} {c : Cn} {ad : Nat → Addr} {os : List SO} : ∀ a, Nw w c ad os a → Nof c ad os a := fun a h => h.elim Or.inl fun z => Or.inr z.2
theorem Nw_n0 {w : Bool} {c : Cn} {ad : Nat → Addr} {os : List SO} : ∀ a, c.N0 a → Nw w c ad os a := fun a h => Or.inl h
theorem Nw_true {c : Cn} {ad : Nat → Addr} {os : List SO} : ∀ a, Nw true c ad os a → c.N0 a := fun a h => h.elim id fun z => nomatch z.1

/-- te gives the data d; the heap is only added to -/
def EvX (w : Bool) (c : Cn) (env : Sy) (os : List SO) (te : TE) (d : PyData) : Prop := ∀ ad σ H, Ok c ad env os σ H → ∀ Q : VK, (∀ v H2, Ex H H2 → Dn c.K (Nw w c ad os) H2 v d → Q v H2) → te σ H Q
/-- te gives the k-th object -/
def EvR (c : Cn) (env : Sy) (os : List SO) (te : TE) (k : Nat) : Prop := k < os.length ∧ ∀ ad σ H, Ok c ad env os σ H → ∀ Q : VK, (∀ H2, Ex H H2 → Q (.ref (ad k)) H2) → te σ H Q
/-- te gives an object that stays as it is -/
def EvK (c : Cn) (env : Sy) (os : List SO) (te : TE) (u : HO) : Prop := Wr u = false ∧ ∀ ad σ H, Ok c ad env os σ H → ∀ Q : VK, (∀ b H2, Ex H H2 → H2 b = some u → Q (.ref b) H2) → te σ H Q
/-- gives an instance -/
def EvB (c : Cn) (env : Sy) (os : List SO) (te : TE) (C : Addr) (m : List (Str × PyData)) : Prop := ∀ ad σ H, Ok c ad env os σ H → ∀ Q : VK, (∀ v H2, Ex H H2 → ObOk c.K (Nof c ad os) H2 v C m → Q v H2) → te σ H Q
def EvS (c : Cn) (env : Sy) (os : List SO) (te : TE) : SV → Prop
  | .i d => EvX false c env os te d
  | .t u => EvK c env os te u
  | .ob C m => EvB c env os te C m
  | .r k => EvR c env os te k
/-- te gives a new object -/
def EvF (c : Cn) (env : Sy) (os : List SO) (te : TE) (o : SO) : Prop := ∀ ad σ H, Ok c ad env os σ H → ∀ Q : VK, (∀ p H2, H p = none → Ex H H2 → SoOk c.K (fun a => Nof c ad os a ∨ a = p) ad os.length H2 p o → Q (.ref p) H2) → te σ H Q
/-- te gives a list that may be read -/
def EvI (c : Cn) (env : Sy) (os : List SO) (te : TE) (ss : List SV) : Prop := ∀ ad σ H, Ok c ad env os σ H → ∀ Q : VK, (∀ p vs H2, Ex H H2 → SqL c.K H2 p vs → Paired (SvOk c.K (Nof c ad os) ad os.length H2) vs ss → Q (.ref p) H2) → te σ H Q
def EvT (c : Cn) (env : Sy) (os : List SO) (tt : TT) (b : Bool) : Prop := ∀ ad σ H, Ok c ad env os σ H → ∀ Q : Bool → Hp → Prop, (∀ H2, Ex H H2 → Q b H2) → tt σ H Q
def EvA (w : Bool) (c : Cn) (env : Sy) (os : List SO) (ta : TA) (ds : List PyData) : Prop := ∀ ad σ H, Ok c ad env os σ H → ∀ Q : List V → Hp → Prop, (∀ vs H2, Ex H H2 → DnAll c.K (Nw w c ad os) H2 vs ds → Q vs H2) → ta σ H Q
def EvAS (c : Cn) (env : Sy) (os : List SO) (ta : TA) (ss : List SV) : Prop := ∀ ad σ H, Ok c ad env os σ H → ∀ Q : List V → Hp → Prop, (∀ vs H2, Ex H H2 → Paired (SvOk c.K (Nof c ad os) ad os.length H2) vs ss → Q vs H2) → ta σ H Q
def EvO (c : Cn) (env : Sy) (os : List SO) (to : TO) (o : Option Int) : Prop := ∀ ad σ H, Ok c ad env os σ H → ∀ Q : Option Int → Hp → Prop, (∀ H2, Ex H H2 → Q o H2) → to σ H Q

section
variable {w : Bool} {c : Cn} {env : Sy} {os : List SO} {te ta tb tl : TE} {d : PyData} {tt tu : TT}

/-! ### conversions -/
theorem EvX.weak (h : EvX false c env os te d) : EvX w c env os te d := fun ad σ H ok Q q => h ad σ H ok Q fun v H2 e r => q v H2 e (r.sub (by rw [Nw_false]; exact Nw_le))
theorem EvX.strong (hd : noList d = true) (h : EvX true c env os te d) : EvX w c env os te d := fun ad σ H ok Q q => h ad σ H ok Q fun v H2 e r => q v H2 e (Dn.goF (fun _ _ r => r) d v hd r)
theorem EvX.n0 (h : EvX w c env os te d) : EvX true c env os te d := fun ad σ H ok Q q => h ad σ H ok Q fun v H2 e r => q v H2 e (r.sub fun a z => Nw_n0 a (Nw_true a z))
theorem EvX.is {d' : PyData} (h : EvX w c env os te d) (e : d = d') : EvX w c env os te d' := e ▸ h
theorem EvT.is {b b' : Bool} (h : EvT c env os tt b) (e : b = b') : EvT c env os tt b' := e ▸ h
theorem EvF.ev {ds : List PyData} (h : EvF c env os te (.lst (ds.map SV.i))) : EvX w c env os te (.list ds) := EvX.weak fun ad σ H ok Q q => h ad σ H ok Q fun p H2 hp e r => by
  obtain ⟨vs, h1, h2⟩ := r
  refine q _ H2 e ?_
  rw [Nw_false]
  exact .lst (Or.inl h1) (fun z => ok.nof z hp) ((paired_dn h2).sub fun a z => Or.inl z)
theorem EvX.it {ds : List PyData} (h : EvX false c env os te (.list ds)) : EvI c env os te (ds.map SV.i) := fun ad σ H ok Q q => h ad σ H ok Q fun v H2 e r => by
  rw [Nw_false] at r
  cases r with
  | lst r n a => exact q _ _ H2 e (Or.inl r) (dn_paired a)
  | lstK r a => exact q _ _ H2 e (Or.inr r) (dn_paired a)
theorem EvR.it {k : Nat} {ss : List SV} (h : EvR c env os te k) (hk : os[k]? = some (.lst ss)) : EvI c env os te ss := fun ad σ H ok Q q => h.2 ad σ H ok Q fun H2 e => by
  obtain ⟨_, vs, h1, h2⟩ := (ok.ext e).obj k _ hk rfl
  exact q _ vs H2 e (Or.inl (Or.inl h1)) h2
theorem EvF.it {ss : List SV} (h : EvF c env os te (.lst ss)) : EvI c env os te ss := fun ad σ H ok Q q => h ad σ H ok Q fun p H2 hp e r => by
  obtain ⟨vs, h1, h2⟩ := r
  exact q _ vs H2 e (Or.inl (Or.inl h1)) (Paired.imp h2 fun _ _ z => z.sub fun a y => Or.inl y)
theorem EvR.data {k : Nat} {ds : List PyData} (h : EvR c env os te k) (hk : os[k]? = some (.lst (ds.map SV.i))) : EvX true c env os te (.list ds) := fun ad σ H ok Q q => h.2 ad σ H ok Q fun H2 e => by
  have ok2 := ok.ext e
  obtain ⟨_, vs, h1, h2⟩ := ok2.obj k _ hk rfl
  exact q _ H2 e (.lst (Or.inl h1) (fun z => ok2.nn k ⟨_, hk, rfl⟩ (Nw_true _ z)) ((paired_dn h2).sub fun a z => Or.inl (Nw_true a z)))

/-! ### names, constants -/
theorem ex_var {i : Nat} (h : env[i]? = some (some (.i d))) : EvX w c env os (tVar i) d := EvX.weak fun ad σ H ok Q q => by
  obtain ⟨v, h1, h2⟩ := ok.val i _ h
  exact ⟨v, h1, q v H (Ex.refl H) (by rw [Nw_false]; exact h2)⟩
theorem er_var {i k : Nat} (h : env[i]? = some (some (.r k))) (hk : k < os.length) : EvR c env os (tVar i) k := ⟨hk, fun ad σ H ok Q q => by
  obtain ⟨v, h1, h2⟩ := ok.val i _ h
  obtain ⟨rfl, _⟩ := h2
  exact ⟨_, h1, q H (Ex.refl H)⟩⟩
theorem ex_int {i : Int} : EvX w c env os (tC (.int i)) (.int i) := fun ad σ H ok Q q => q _ H (Ex.refl H) (.int i)
theorem ex_bl {i : Bool} : EvX w c env os (tC (.bl i)) (.bool i) := fun ad σ H ok Q q => q _ H (Ex.refl H) (.bl i)
theorem ex_str {i : Str} : EvX w c env os (tC (.str i)) (.str i) := fun ad σ H ok Q q => q _ H (Ex.refl H) (.str i)
theorem ex_non : EvX w c env os (tC .non) .none := fun ad σ H ok Q q => q _ H (Ex.refl H) .non
/-- a constant of the module that is an object -/
theorem ex_const {a : Addr} (h : ∀ N H, Dn c.K N H (.ref a) d) : EvX w c env os (tC (.ref a)) d := fun ad σ H ok Q q => q _ H (Ex.refl H) (h _ H)

/-! ### operators on ints -/
theorem dn_int {K : PySem.W.Frag} {N : Addr → Prop} {H : Hp} {v : V} {i : Int} (h : Dn K N H v (.int i)) : v = .int i := by cases h; rfl
theorem dn_bool {K : PySem.W.Frag} {N : Addr → Prop} {H : Hp} {v : V} {i : Bool} (h : Dn K N H v (.bool i)) : v = .bl i := by cases h; rfl
theorem dn_str {K : PySem.W.Frag} {N : Addr → Prop} {H : Hp} {v : V} {i : Str} (h : Dn K N H v (.str i)) : v = .str i := by cases h; rfl
theorem dn_none {K : PySem.W.Frag} {N : Addr → Prop} {H : Hp} {v : V} (h : Dn K N H v .none) : v = .non := by cases h; rfl
theorem ex_i2 {f : Int → Int → Int} {i j : Int} (ha : EvX true c env os ta (.int i)) (hb : EvX true c env os tb (.int j)) : EvX w c env os (tOp (rI0 fun i j => .int (f i j)) ta tb) (.int (f i j)) := fun ad σ H ok Q q =>
  ha ad σ H ok _ fun v H1 e1 r1 => hb ad σ H1 (ok.ext e1) _ fun u H2 e2 r2 => ⟨i, j, dn_int r1, dn_int r2, q _ H2 (e1.trans e2) (.int _)⟩
theorem ex_i2c {C : Int → Int → Prop} {f : Int → Int → Int} {i j : Int} (ha : EvX true c env os ta (.int i)) (hb : EvX true c env os tb (.int j)) (hc : C i j) : EvX w c env os (tOp (rI C fun i j => .int (f i j)) ta tb) (.int (f i j)) := fun ad σ H ok Q q =>
  ha ad σ H ok _ fun v H1 e1 r1 => hb ad σ H1 (ok.ext e1) _ fun u H2 e2 r2 => ⟨i, j, dn_int r1, dn_int r2, hc, q _ H2 (e1.trans e2) (.int _)⟩
theorem ex_b2 {f : Int → Int → Bool} {i j : Int} (ha : EvX true c env os ta (.int i)) (hb : EvX true c env os tb (.int j)) : EvX w c env os (tOp (rI0 fun i j => .bl (f i j)) ta tb) (.bool (f i j)) := fun ad σ H ok Q q =>
  ha ad σ H ok _ fun v H1 e1 r1 => hb ad σ H1 (ok.ext e1) _ fun u H2 e2 r2 => ⟨i, j, dn_int r1, dn_int r2, q _ H2 (e1.trans e2) (.bl _)⟩
theorem ex_u {f : Int → Int} {i : Int} (ha : EvX true c env os ta (.int i)) : EvX w c env os (tUn (rU fun i => .int (f i)) ta) (.int (f i)) := fun ad σ H ok Q q =>
  ha ad σ H ok _ fun v H1 e1 r1 => ⟨i, dn_int r1, q _ H1 e1 (.int _)⟩
theorem ex_eqI {i j : Int} (ha : EvX true c env os ta (.int i)) (hb : EvX true c env os tb (.int j)) : EvX w c env os (tOp rEq ta tb) (.bool (decide (i = j))) := fun ad σ H ok Q q =>
  ha ad σ H ok _ fun v H1 e1 r1 => hb ad σ H1 (ok.ext e1) _ fun u H2 e2 r2 => by
    cases dn_int r1; cases dn_int r2
    refine ⟨rfl, q _ H2 (e1.trans e2) ?_⟩
    rw [dec_int, Bool.beq_eq_decide_eq]
    exact .bl _
theorem ex_neI {i j : Int} (ha : EvX true c env os ta (.int i)) (hb : EvX true c env os tb (.int j)) : EvX w c env os (tOp rNe ta tb) (.bool (!decide (i = j))) := fun ad σ H ok Q q =>
  ha ad σ H ok _ fun v H1 e1 r1 => hb ad σ H1 (ok.ext e1) _ fun u H2 e2 r2 => by
    cases dn_int r1; cases dn_int r2
    refine ⟨rfl, q _ H2 (e1.trans e2) ?_⟩
    rw [dec_int, Bool.beq_eq_decide_eq]
    exact .bl _
theorem ex_eqB {i j : Bool} (ha : EvX true c env os ta (.bool i)) (hb : EvX true c env os tb (.bool j)) : EvX w c env os (tOp rEq ta tb) (.bool (i == j)) := fun ad σ H ok Q q =>
  ha ad σ H ok _ fun v H1 e1 r1 => hb ad σ H1 (ok.ext e1) _ fun u H2 e2 r2 => by
    cases dn_bool r1; cases dn_bool r2
    refine ⟨rfl, q _ H2 (e1.trans e2) ?_⟩
    rw [dec_bl]
    exact .bl _
theorem ex_neB {i j : Bool} (ha : EvX true c env os ta (.bool i)) (hb : EvX true c env os tb (.bool j)) : EvX w c env os (tOp rNe ta tb) (.bool (!(i == j))) := fun ad σ H ok Q q =>
  ha ad σ H ok _ fun v H1 e1 r1 => hb ad σ H1 (ok.ext e1) _ fun u H2 e2 r2 => by
    cases dn_bool r1; cases dn_bool r2
    refine ⟨rfl, q _ H2 (e1.trans e2) ?_⟩
    rw [dec_bl]
    exact .bl _
theorem ex_eqS {i j : Str} (ha : EvX true c env os ta (.str i)) (hb : EvX true c env os tb (.str j)) : EvX w c env os (tOp rEq ta tb) (.bool (i == j)) := fun ad σ H ok Q q =>
  ha ad σ H ok _ fun v H1 e1 r1 => hb ad σ H1 (ok.ext e1) _ fun u H2 e2 r2 => by
    cases dn_str r1; cases dn_str r2
    refine ⟨rfl, q _ H2 (e1.trans e2) ?_⟩
    rw [dec_str]
    exact .bl _
theorem ex_neS {i j : Str} (ha : EvX true c env os ta (.str i)) (hb : EvX true c env os tb (.str j)) : EvX w c env os (tOp rNe ta tb) (.bool (!(i == j))) := fun ad σ H ok Q q =>
  ha ad σ H ok _ fun v H1 e1 r1 => hb ad σ H1 (ok.ext e1) _ fun u H2 e2 r2 => by
    cases dn_str r1; cases dn_str r2
    refine ⟨rfl, q _ H2 (e1.trans e2) ?_⟩
    rw [dec_str]
    exact .bl _
theorem plain_of {d : PyData} (h : SeqAt.shaped d = true) : d.plain = true := PyData.plain_of_canLay0 d (by
  unfold SeqAt.shaped at h
  rw [Bool.and_eq_true] at h
  exact h.1)
/-- == of data -/
theorem ex_eqD {d e : PyData} (ha : EvX true c env os ta d) (hb : EvX true c env os tb e) (s1 : SeqAt.shaped d = true) (s2 : SeqAt.shaped e = true) : EvX w c env os (tOp (rEqD c.K) ta tb) (.bool (PyData.eqv d e)) := fun ad σ H ok Q q =>
  ha ad σ H ok _ fun v H1 e1 r1 => hb ad σ H1 (ok.ext e1) _ fun u H2 e2 r2 => ⟨d, e, Dn.dp _ _ (plain_of s1) (r1.ext e2), Dn.dp _ _ (plain_of s2) r2, s1, s2, q _ H2 (e1.trans e2) (.bl _)⟩
theorem ex_neD {d e : PyData} (ha : EvX true c env os ta d) (hb : EvX true c env os tb e) (s1 : SeqAt.shaped d = true) (s2 : SeqAt.shaped e = true) : EvX w c env os (tOp (rNeD c.K) ta tb) (.bool (!PyData.eqv d e)) := fun ad σ H ok Q q =>
  ha ad σ H ok _ fun v H1 e1 r1 => hb ad σ H1 (ok.ext e1) _ fun u H2 e2 r2 => ⟨d, e, Dn.dp _ _ (plain_of s1) (r1.ext e2), Dn.dp _ _ (plain_of s2) r2, s1, s2, q _ H2 (e1.trans e2) (.bl _)⟩
theorem ex_isN {r : R2} (hr : r = (fun x y H Q => y = .non ∧ Q (.bl (decide (x = .non))) H)) (ha : EvX true c env os ta d) : EvX w c env os (tOp r ta (tC .non)) (.bool (match d with | .none => true | _ => false)) := fun ad σ H ok Q q => by
  subst hr
  refine ha ad σ H ok _ fun v H1 e1 r1 => ⟨rfl, q _ H1 e1 ?_⟩
  cases r1 <;> exact .bl _
theorem ex_notN {r : R2} (hr : r = (fun x y H Q => y = .non ∧ Q (.bl (!decide (x = .non))) H)) (ha : EvX true c env os ta d) : EvX w c env os (tOp r ta (tC .non)) (.bool (match d with | .none => false | _ => true)) := fun ad σ H ok Q q => by
  subst hr
  refine ha ad σ H ok _ fun v H1 e1 r1 => ⟨rfl, q _ H1 e1 ?_⟩
  cases r1 <;> exact .bl _
/-- a op b op c -/
theorem ex_chain {r r' : R2} {ta tb tc : TE} {f g : Int → Int → Bool} {i j k : Int} (hr : r = rI0 fun i j => .bl (f i j)) (hr' : r' = rI0 fun i j => .bl (g i j)) (ha : EvX true c env os ta (.int i)) (hb : EvX true c env os tb (.int j)) (hc : EvX true c env os tc (.int k)) :
    EvX w c env os (tChain r r' ta tb tc) (.bool (f i j && g j k)) := fun ad σ H ok Q q => by
  subst hr hr'
  refine ha ad σ H ok _ fun v H1 e1 r1 => hb ad σ H1 (ok.ext e1) _ fun u H2 e2 r2 => ⟨i, j, dn_int r1, dn_int r2, f i j, rfl, ?_⟩
  cases hf : f i j with
  | true =>
    rw [if_pos rfl]
    exact hc ad σ H2 ((ok.ext e1).ext e2) _ fun z H3 e3 r3 => ⟨j, k, dn_int r2, dn_int r3, q _ H3 ((e1.trans e2).trans e3) (by rw [hf]; exact .bl _)⟩
  | false =>
    rw [if_neg (by decide)]
    exact q _ H2 (e1.trans e2) (by rw [hf]; exact .bl _)

/-! ### tests -/
theorem et_test {b : Bool} (h : EvX true c env os te (.bool b)) : EvT c env os (tTest te) b := fun ad σ H ok Q q => h ad σ H ok _ fun v H2 e r => ⟨b, dn_bool r, q H2 e⟩
theorem et_B {b : Bool} (h : EvX true c env os te (.bool b)) : EvT c env os (tB te) b := fun ad σ H ok Q q => h ad σ H ok _ fun v H2 e r => ⟨b, dn_bool r, q H2 e⟩
theorem et_and {a b : Bool} (h1 : EvT c env os tt a) (h2 : a = true → EvT c env os tu b) : EvT c env os (tAnd tt tu) (a && b) := fun ad σ H ok Q q => h1 ad σ H ok _ fun H2 e2 => by
  cases a with
  | true =>
    show tu σ H2 Q
    exact h2 rfl ad σ H2 (ok.ext e2) Q fun H3 e3 => q H3 (e2.trans e3)
  | false =>
    show Q false H2
    exact q H2 e2
theorem et_or {a b : Bool} (h1 : EvT c env os tt a) (h2 : a = false → EvT c env os tu b) : EvT c env os (tOr tt tu) (a || b) := fun ad σ H ok Q q => h1 ad σ H ok _ fun H2 e2 => by
  cases a with
  | true =>
    show Q true H2
    exact q H2 e2
  | false =>
    show tu σ H2 Q
    exact h2 rfl ad σ H2 (ok.ext e2) Q fun H3 e3 => q H3 (e2.trans e3)
theorem et_not {a : Bool} (h1 : EvT c env os tt a) : EvT c env os (tNot tt) (!a) := fun ad σ H ok Q q => h1 ad σ H ok _ fun H2 e2 => q H2 e2
theorem ex_and {a b : Bool} (h1 : EvX true c env os ta (.bool a)) (h2 : a = true → EvX true c env os tb (.bool b)) : EvX w c env os (tAndV ta tb) (.bool (a && b)) := fun ad σ H ok Q q => h1 ad σ H ok _ fun v H2 e2 r2 => ⟨a, dn_bool r2, by
  cases a with
  | true =>
    rw [if_pos rfl]
    exact h2 rfl ad σ H2 (ok.ext e2) Q fun u H3 e3 r3 => q u H3 (e2.trans e3) (by cases r3; exact .bl _)
  | false =>
    rw [if_neg (by decide)]
    exact q _ H2 e2 (.bl _)⟩
theorem ex_or {a b : Bool} (h1 : EvX true c env os ta (.bool a)) (h2 : a = false → EvX true c env os tb (.bool b)) : EvX w c env os (tOrV ta tb) (.bool (a || b)) := fun ad σ H ok Q q => h1 ad σ H ok _ fun v H2 e2 r2 => ⟨a, dn_bool r2, by
  cases a with
  | true =>
    rw [if_pos rfl]
    exact q _ H2 e2 (.bl _)
  | false =>
    rw [if_neg (by decide)]
    exact h2 rfl ad σ H2 (ok.ext e2) Q fun u H3 e3 r3 => q u H3 (e2.trans e3) (by cases r3; exact .bl _)⟩
theorem ex_not {a : Bool} (h1 : EvX true c env os ta (.bool a)) : EvX w c env os (tNotV ta) (.bool (!a)) := fun ad σ H ok Q q => h1 ad σ H ok _ fun v H2 e2 r2 => ⟨a, dn_bool r2, q _ H2 e2 (.bl _)⟩
theorem ex_if {b : Bool} (h : EvT c env os tt b) (h1 : b = true → EvX w c env os ta d) (h2 : b = false → EvX w c env os tb d) : EvX w c env os (tIf tt ta tb) d := fun ad σ H ok Q q => h ad σ H ok _ fun H2 e2 => by
  cases b with
  | true =>
    show ta σ H2 Q
    exact h1 rfl ad σ H2 (ok.ext e2) Q fun v H3 e3 => q v H3 (e2.trans e3)
  | false =>
    show tb σ H2 Q
    exact h2 rfl ad σ H2 (ok.ext e2) Q fun v H3 e3 => q v H3 (e2.trans e3)
/-- the truth of a list -/
theorem et_truL {r : V → Hp → (Bool → Hp → Prop) → Prop} {ss : List SV} (hr : r = fun x H Q => ∃ k, TruV c.K x H k ∧ Q k H) (h : EvI c env os te ss) : EvT c env os (fun σ H Q => te σ H fun x H' => r x H' Q) (!ss.isEmpty) := fun ad σ H ok Q q => by
  subst hr
  refine h ad σ H ok _ fun p vs H2 e s r => ⟨!ss.isEmpty, Or.inl ⟨vs, s, ?_⟩, q H2 e⟩
  cases r <;> rfl

/-! ### argument lists -/
theorem ea_nil : EvA w c env os tNil [] := fun ad σ H ok Q q => q [] H (Ex.refl H) .nil
theorem ea_cons {tr : TA} {ds : List PyData} (h : EvX w c env os te d) (hr : EvA w c env os tr ds) : EvA w c env os (tCons te tr) (d :: ds) := fun ad σ H ok Q q =>
  h ad σ H ok _ fun v H2 e2 r2 => hr ad σ H2 (ok.ext e2) _ fun vs H3 e3 r3 => q _ H3 (e2.trans e3) (.cons (r2.ext e3) r3)
theorem eas_nil : EvAS c env os tNil [] := fun ad σ H ok Q q => q [] H (Ex.refl H) .nil
theorem eas_cons {tr : TA} {s : SV} {ss : List SV} (h : EvS c env os te s) (hr : EvAS c env os tr ss) : EvAS c env os (tCons te tr) (s :: ss) := fun ad σ H ok Q q => by
  cases s with
  | i d => exact (show EvX false c env os te d from h) ad σ H ok _ fun v H2 e2 r2 => hr ad σ H2 (ok.ext e2) _ fun vs H3 e3 r3 => q _ H3 (e2.trans e3) (.cons (show Dn _ _ _ _ _ by rw [Nw_false] at r2; exact r2.ext e3) r3)
  | t ks => exact (show EvK c env os te ks from h).2 ad σ H ok _ fun b H2 e2 r2 => hr ad σ H2 (ok.ext e2) _ fun vs H3 e3 r3 => q _ H3 (e2.trans e3) (.cons ⟨b, rfl, e3 _ _ r2, (show EvK c env os te ks from h).1⟩ r3)
  | ob C m => exact (show EvB c env os te C m from h) ad σ H ok _ fun v H2 e2 r2 => hr ad σ H2 (ok.ext e2) _ fun vs H3 e3 r3 => q _ H3 (e2.trans e3) (.cons (ObOk.ext e3 r2) r3)
  | r k =>
    obtain ⟨hk, h⟩ := (show EvR c env os te k from h)
    exact h ad σ H ok _ fun H2 e2 => hr ad σ H2 (ok.ext e2) _ fun vs H3 e3 r3 => q _ H3 (e2.trans e3) (.cons ⟨rfl, hk⟩ r3)
theorem EvA.ss {ta : TA} {ds : List PyData} (h : EvA false c env os ta ds) : EvAS c env os ta (ds.map SV.i) := fun ad σ H ok Q q => h ad σ H ok Q fun vs H2 e r => q vs H2 e (by rw [Nw_false] at r; exact dn_paired r)

/-! ### displays -/
theorem ex_tup {ta : TA} {ds : List PyData} (h : EvA w c env os ta ds) (hl : ds.length ≤ 100000) : EvX w c env os (tTup ta) (.tuple ds) := fun ad σ H ok Q q =>
  h ad σ H ok _ fun vs H2 e r => ⟨Nat.le_trans (by rw [r.length]; exact hl) (by decide), fun p hp => q _ _ (e.trans (Ex.new hp)) (.tup (SqT.of upd_same) (r.ext (Ex.new hp)))⟩
theorem ef_lst {ta : TA} {ss : List SV} (h : EvAS c env os ta ss) (hl : ss.length ≤ 100000) : EvF c env os (tLst ta) (.lst ss) := fun ad σ H ok Q q =>
  h ad σ H ok _ fun vs H2 e r => ⟨Nat.le_trans (by rw [Paired.length r]; exact hl) (by decide), fun p hp => q p _ (e.free hp) (e.trans (Ex.new hp)) ⟨vs, upd_same, Paired.imp r fun v s z => by
    cases s with
    | i d => exact (Dn.add hp z).ext (Ex.new hp)
    | t ks => obtain ⟨b, e1, e2⟩ := z; exact ⟨b, e1, Ex.new hp _ _ e2.1, e2.2⟩
    | ob C m => exact (ObOk.add hp z).ext (Ex.new hp)
    | r k => exact z⟩⟩

/-! ### subscripts -/
theorem ex_ixT {tb : TE} {ds : List PyData} {i : Int} (h : EvX w c env os ta (.tuple ds)) (hi : EvX true c env os tb (.int i)) (hd : atI ds i = some d) : EvX w c env os (tOp (rIxT c.K) ta tb) d := fun ad σ H ok Q q =>
  h ad σ H ok _ fun v H1 e1 r1 => hi ad σ H1 (ok.ext e1) _ fun u H2 e2 r2 => by
    have r1' := r1.ext e2
    cases dn_int r2
    cases r1' with
    | tup r a =>
      obtain ⟨j, z1, z2⟩ : ∃ j, ixN ds.length i = some j ∧ ds[j]? = some d := by
        unfold atI at hd
        cases hx : ixN ds.length i with
        | none => rw [hx] at hd; cases hd
        | some j => rw [hx] at hd; exact ⟨j, rfl, hd⟩
      obtain ⟨v, y1, y2⟩ := a.get z2
      refine ⟨_, _, i, v, rfl, rfl, r, ?_, q v H2 (e1.trans e2) y2⟩
      unfold atI
      rw [a.length, z1]
      exact y1
theorem paired_get {α β : Type} {F : α → β → Prop} : ∀ {l₁ : List α} {l₂ : List β} {i : Nat} {b : β}, Paired F l₁ l₂ → l₂[i]? = some b → ∃ a, l₁[i]? = some a ∧ F a b
  | _, _, _, _, .nil, e => by simp at e
  | _, _, 0, _, .cons r _, e => by simp at e; subst e; exact ⟨_, rfl, r⟩
  | _, _, i + 1, _, .cons _ t, e => by
    obtain ⟨v, h1, h2⟩ := paired_get (i := i) t (by simpa using e)
    exact ⟨v, by simpa using h1, h2⟩
theorem paired_getL {α β : Type} {F : α → β → Prop} : ∀ {l₁ : List α} {l₂ : List β} {i : Nat} {a : α}, Paired F l₁ l₂ → l₁[i]? = some a → ∃ b, l₂[i]? = some b ∧ F a b
  | _, _, _, _, .nil, e => by simp at e
  | _, _, 0, _, .cons r _, e => by simp at e; subst e; exact ⟨_, rfl, r⟩
  | _, _, i + 1, _, .cons _ t, e => by
    obtain ⟨v, h1, h2⟩ := paired_getL (i := i) t (by simpa using e)
    exact ⟨v, by simpa using h1, h2⟩
theorem paired_at {α β : Type} {F : α → β → Prop} {l₁ : List α} {l₂ : List β} {i : Int} {b : β} (p : Paired F l₁ l₂) (h : atI l₂ i = some b) : ∃ a, atI l₁ i = some a ∧ F a b := by
  unfold atI at h
  cases hx : ixN l₂.length i with
  | none => rw [hx] at h; cases h
  | some j =>
    rw [hx] at h
    obtain ⟨a, h1, h2⟩ := paired_get p (show l₂[j]? = some b from h)
    refine ⟨a, ?_, h2⟩
    unfold atI
    rw [Paired.length p, hx]
    exact h1
/-- xs[i] of a list -/
theorem ex_ixL {tb : TE} {ss : List SV} {i : Int} (h : EvI c env os ta ss) (hi : EvX true c env os tb (.int i)) (hd : atI ss i = some (.i d)) : EvX w c env os (tOp (rIxL c.K) ta tb) d := EvX.weak fun ad σ H ok Q q =>
  h ad σ H ok _ fun p vs H1 e1 s1 r1 => hi ad σ H1 (ok.ext e1) _ fun u H2 e2 r2 => by
    cases dn_int r2
    obtain ⟨v, h1, h2⟩ := paired_at r1 hd
    exact ⟨p, vs, i, v, rfl, rfl, e2.sql s1, h1, q v H2 (e1.trans e2) (by rw [Nw_false]; exact Dn.ext e2 h2)⟩
/-- .. of data, told weakly -/
theorem ex_ixLD {tb : TE} {ds : List PyData} {i : Int} (h : EvX w c env os ta (.list ds)) (hi : EvX true c env os tb (.int i)) (hd : atI ds i = some d) : EvX w c env os (tOp (rIxL c.K) ta tb) d := fun ad σ H ok Q q =>
  h ad σ H ok _ fun v H1 e1 r1 => hi ad σ H1 (ok.ext e1) _ fun u H2 e2 r2 => by
    have r1' := r1.ext e2
    cases dn_int r2
    obtain ⟨j, z1, z2⟩ : ∃ j, ixN ds.length i = some j ∧ ds[j]? = some d := by
      unfold atI at hd
      cases hx : ixN ds.length i with
      | none => rw [hx] at hd; cases hd
      | some j => rw [hx] at hd; exact ⟨j, rfl, hd⟩
    cases r1' with
    | lst r n a =>
      obtain ⟨v, y1, y2⟩ := a.get z2
      refine ⟨_, _, i, v, rfl, rfl, Or.inl r, ?_, q v H2 (e1.trans e2) y2⟩
      unfold atI
      rw [a.length, z1]
      exact y1
    | lstK r a =>
      obtain ⟨v, y1, y2⟩ := a.get z2
      refine ⟨_, _, i, v, rfl, rfl, Or.inr r, ?_, q v H2 (e1.trans e2) y2⟩
      unfold atI
      rw [a.length, z1]
      exact y1
theorem eo_none : EvO c env os tNoPart none := fun ad σ H ok Q q => q H (Ex.refl H)
theorem eo_some {i : Int} (h : EvX true c env os te (.int i)) : EvO c env os (tPart te) (some i) := fun ad σ H ok Q q => h ad σ H ok _ fun v H2 e r => ⟨i, dn_int r, q H2 e⟩
def cutG {α : Type} (xs : List α) (lo hi : Option Int) : List α := (xs.drop (HT.sIx xs.length 0 lo)).take (HT.sIx xs.length xs.length hi - HT.sIx xs.length 0 lo)
theorem Paired.drop {α β : Type} {F : α → β → Prop} : ∀ {l₁ : List α} {l₂ : List β} (n : Nat), Paired F l₁ l₂ → Paired F (l₁.drop n) (l₂.drop n)
  | _, _, 0, r => r
  | _, _, _ + 1, .nil => .nil
  | _, _, n + 1, .cons _ t => Paired.drop n t
theorem Paired.take {α β : Type} {F : α → β → Prop} : ∀ {l₁ : List α} {l₂ : List β} (n : Nat), Paired F l₁ l₂ → Paired F (l₁.take n) (l₂.take n)
  | _, _, 0, r => .nil
  | _, _, _ + 1, .nil => .nil
  | _, _, n + 1, .cons r t => .cons r (Paired.take n t)
theorem ef_slice {tl th : TO} {ss : List SV} {lo hi : Option Int} (h : EvI c env os te ss) (h1 : EvO c env os tl lo) (h2 : EvO c env os th hi) : EvF c env os (tSl (rSlL c.K) te tl th) (.lst (cutG ss lo hi)) := fun ad σ H ok Q q =>
  h ad σ H ok _ fun p vs H1 e1 s1 r1 => h1 ad σ H1 (ok.ext e1) _ fun H2 e2 => h2 ad σ H2 ((ok.ext e1).ext e2) _ fun H3 e3 =>
    ⟨p, vs, rfl, (e2.trans e3).sql s1, fun l hl => q l _ (((e1.trans e2).trans e3).free hl) (((e1.trans e2).trans e3).trans (Ex.new hl)) ⟨cutV vs lo hi, upd_same, by
      have r2 : Paired (SvOk c.K (Nof c ad os) ad os.length H3) (cutV vs lo hi) (cutG ss lo hi) := by
        unfold cutV cutG
        rw [Paired.length r1]
        exact Paired.take _ (Paired.drop _ (Paired.imp r1 fun _ _ z => z.ext (e2.trans e3)))
      exact Paired.imp r2 fun v s z => by
        cases s with
        | i d => exact (Dn.add hl z).ext (Ex.new hl)
        | t ks => obtain ⟨b, e1, e2⟩ := z; exact ⟨b, e1, Ex.new hl _ _ e2.1, e2.2⟩
        | ob C m => exact (ObOk.add hl z).ext (Ex.new hl)
        | r k => exact z⟩⟩

/-! ### built-ins -/
theorem ex_len {r : List V → Hp → VK → Prop} {ss : List SV} (hr : r = fun xs H Q => ∃ p ys, xs = [.ref p] ∧ (SqL c.K H p ys ∨ SqT c.K H p ys) ∧ Q (.int ys.length) H) (h : EvI c env os te ss) : EvX w c env os (tCB r (tCons te tNil)) (.int (ss.length : Int)) := fun ad σ H ok Q q => by
  subst hr
  refine h ad σ H ok _ fun p vs H2 e s r => ⟨p, vs, rfl, Or.inl s, ?_⟩
  rw [Paired.length r]
  exact q _ H2 e (.int _)
theorem ex_lenT {r : List V → Hp → VK → Prop} {ds : List PyData} (hr : r = fun xs H Q => ∃ p ys, xs = [.ref p] ∧ (SqL c.K H p ys ∨ SqT c.K H p ys) ∧ Q (.int ys.length) H) (h : EvX true c env os te (.tuple ds)) : EvX w c env os (tCB r (tCons te tNil)) (.int (ds.length : Int)) := fun ad σ H ok Q q => by
  subst hr
  refine h ad σ H ok _ fun v H2 e s => ?_
  cases s with
  | tup s a =>
    refine ⟨_, _, rfl, Or.inr s, ?_⟩
    rw [a.length]
    exact q _ H2 e (.int _)
theorem ef_list {r : List V → Hp → VK → Prop} {ss : List SV} (hr : r = fun xs H Q => ∃ p ys, xs = [.ref p] ∧ (SqL c.K H p ys ∨ SqT c.K H p ys) ∧ ∀ l, H l = none → Q (.ref l) (upd H l (.lst ys))) (h : EvI c env os te ss) : EvF c env os (tCB r (tCons te tNil)) (.lst ss) := fun ad σ H ok Q q => by
  subst hr
  refine h ad σ H ok _ fun p vs H2 e s r => ⟨p, vs, rfl, Or.inl s, fun l hl => q l _ (e.free hl) (e.trans (Ex.new hl)) ⟨vs, upd_same, Paired.imp r fun v s z => by
    cases s with
    | i d => exact (Dn.add hl z).ext (Ex.new hl)
    | t ks => obtain ⟨b, e1, e2⟩ := z; exact ⟨b, e1, Ex.new hl _ _ e2.1, e2.2⟩
    | ob C m => exact (ObOk.add hl z).ext (Ex.new hl)
    | r k => exact z⟩⟩
/-- a built-in of ints -/
theorem ex_cb {r : List V → Hp → VK → Prop} {ta : TA} {ds : List PyData} (h : EvA w c env os ta ds) (hr : ∀ ad H vs, DnAll c.K (Nw w c ad os) H vs ds → ∀ Q : VK, (∀ v, Dn c.K (Nw w c ad os) H v d → Q v H) → r vs H Q) : EvX w c env os (tCB r ta) d := fun ad σ H ok Q q =>
  h ad σ H ok _ fun vs H2 e a => hr ad H2 vs a Q fun v z => q v H2 e z
theorem ex_int1 {r : List V → Hp → VK → Prop} {i : Int} (hr : r = fun xs H Q => (∃ i, xs = [.int i] ∧ Q (.int i) H) ∨ ∃ k, xs = [.bl k] ∧ Q (.int (if k then 1 else 0)) H) (h : EvX true c env os te (.int i)) : EvX w c env os (tCB r (tCons te tNil)) (.int i) := fun ad σ H ok Q q => by
  subst hr
  exact h ad σ H ok _ fun v H2 e a => Or.inl ⟨i, by rw [dn_int a], q _ H2 e (.int i)⟩
theorem ex_max2 {r : List V → Hp → VK → Prop} {i j : Int} (hr : r = fun xs H Q => ∃ i j, xs = [.int i, .int j] ∧ Q (.int (if j > i then j else i)) H) (ha : EvX true c env os ta (.int i)) (hb : EvX true c env os tb (.int j)) : EvX w c env os (tCB r (tCons ta (tCons tb tNil))) (.int (max i j)) := fun ad σ H ok Q q => by
  subst hr
  refine ha ad σ H ok _ fun v H1 e1 a => hb ad σ H1 (ok.ext e1) _ fun u H2 e2 b => ⟨i, j, by rw [dn_int a, dn_int b], q _ H2 (e1.trans e2) ?_⟩
  have : (if j > i then j else i) = max i j := by split <;> omega
  rw [this]
  exact .int _
theorem ex_min2 {r : List V → Hp → VK → Prop} {i j : Int} (hr : r = fun xs H Q => ∃ i j, xs = [.int i, .int j] ∧ Q (.int (if j < i then j else i)) H) (ha : EvX true c env os ta (.int i)) (hb : EvX true c env os tb (.int j)) : EvX w c env os (tCB r (tCons ta (tCons tb tNil))) (.int (min i j)) := fun ad σ H ok Q q => by
  subst hr
  refine ha ad σ H ok _ fun v H1 e1 a => hb ad σ H1 (ok.ext e1) _ fun u H2 e2 b => ⟨i, j, by rw [dn_int a, dn_int b], q _ H2 (e1.trans e2) ?_⟩
  have : (if j < i then j else i) = min i j := by split <;> omega
  rw [this]
  exact .int _
/-- xs + ys, both new -/
theorem ef_cat {ss us : List SV} (ha : EvF c env os ta (.lst ss)) (hb : EvF c env os tb (.lst us)) (hl : ss.length + us.length ≤ 100000) : EvF c env os (tOp rCat ta tb) (.lst (ss ++ us)) := fun ad σ H ok Q q => by
  refine ha ad σ H ok _ fun a H1 pa e1 r1 => hb ad σ H1 (ok.ext e1) _ fun b H2 pb e2 r2 => ?_
  obtain ⟨xs, s1, r1⟩ := r1
  obtain ⟨ys, s2, r2⟩ := r2
  refine ⟨a, b, xs, ys, rfl, rfl, e2 _ _ s1, s2, ?_, fun p hp => q p _ ((e1.trans e2).free hp) ((e1.trans e2).trans (Ex.new hp)) ⟨xs ++ ys, upd_same, ?_⟩⟩
  · rw [Paired.length r1, Paired.length r2]; exact Nat.le_trans hl (by decide)
  · have app : ∀ {l1 : List V} {m1 : List SV} {l2 : List V} {m2 : List SV}, Paired (SvOk c.K (Nof c ad os) ad os.length H2) l1 m1 → Paired (SvOk c.K (Nof c ad os) ad os.length H2) l2 m2 → Paired (SvOk c.K (Nof c ad os) ad os.length H2) (l1 ++ l2) (m1 ++ m2) := by
      intro l1 m1 l2 m2 p q
      induction p with
      | nil => exact q
      | cons r t ih => exact .cons r ih
    exact Paired.imp (app (Paired.imp r1 fun _ _ z => (z.sub fun a y => Or.inl y).ext e2) (Paired.imp r2 fun _ _ z => z.sub fun a y => Or.inl y)) fun v s z => by
      cases s with
      | i d => exact (Dn.add hp z).ext (Ex.new hp)
      | t ks => obtain ⟨b, e1, e2⟩ := z; exact ⟨b, e1, Ex.new hp _ _ e2.1, e2.2⟩
      | ob C m => exact (ObOk.add hp z).ext (Ex.new hp)
      | r k => exact z
end

/-! ### promises -/
/-- data in, data out; nothing that stands is changed -/
def spD (K : PySem.W.Frag) (R : List PyData → PyData → Prop) : Sp := fun vs H Q _ => ∃ (N : Addr → Prop) (ds : List PyData) (d : PyData), (∀ a, N a → H a ≠ none) ∧ DnAll K N H vs ds ∧ R ds d ∧ ∀ v H', Ex H H' → Dn K N H' v d → Q v H'
/-- data in, a new list of data out -/
def spF (K : PySem.W.Frag) (R : List PyData → List PyData → Prop) : Sp := fun vs H Q _ => ∃ (N : Addr → Prop) (ds : List PyData) (rs : List PyData), (∀ a, N a → H a ≠ none) ∧ DnAll K N H vs ds ∧ R ds rs ∧
  ∀ p H' ws, H p = none → Ex H H' → H' p = some (.lst ws) → DnAll K (fun a => N a ∨ a = p) H' ws rs → Q (.ref p) H'
section
variable {w : Bool} {c : Cn} {env : Sy} {os : List SO} {te : TE} {ta : TA} {d : PyData}
theorem ex_call {R : List PyData → PyData → Prop} {E : XK} {ds : List PyData} (h : EvA w c env os ta ds) (hR : R ds d) : EvX w c env os (tCall (spD c.K R) [] E ta) d := fun ad σ H ok Q q =>
  h ad σ H ok _ fun vs H2 e a => by
    rw [List.append_nil]
    exact ⟨Nw w c ad os, ds, d, fun b z => (ok.ext e).nof (Nw_le b z), a, hR, fun v H' e' r => q v H' (e.trans e') r⟩
theorem ef_call {R : List PyData → List PyData → Prop} {E : XK} {ds rs : List PyData} (h : EvA false c env os ta ds) (hR : R ds rs) : EvF c env os (tCall (spF c.K R) [] E ta) (.lst (rs.map SV.i)) := fun ad σ H ok Q q =>
  h ad σ H ok _ fun vs H2 e a => by
    rw [List.append_nil]
    rw [Nw_false] at a
    exact ⟨Nof c ad os, ds, rs, fun b z => (ok.ext e).nof z, a, hR, fun p H' ws hp e' h1 h2 => q p H' (e.free hp) (e.trans e') ⟨ws, h1, dn_paired h2⟩⟩
/-- .. where an argument is a list of the store: told where the answer has no list in its items -/
theorem ef_callW {R : List PyData → List PyData → Prop} {E : XK} {ds rs : List PyData} (h : EvA true c env os ta ds) (hR : R ds rs) (hn : noLists rs = true) : EvF c env os (tCall (spF c.K R) [] E ta) (.lst (rs.map SV.i)) := fun ad σ H ok Q q =>
  h ad σ H ok _ fun vs H2 e a => by
    rw [List.append_nil]
    exact ⟨Nw true c ad os, ds, rs, fun b z => (ok.ext e).nof (Nw_le b z), a, hR, fun p H' ws hp e' h1 h2 => q p H' (e.free hp) (e.trans e') ⟨ws, h1, dn_paired (DnAll.goF (fun _ _ r => r) rs ws hn h2)⟩⟩
end

/-! ### statements -/
def Go (c : Cn) (env : Sy) (os : List SO) (t : TS) (D : Ends) : Prop := ∀ ad σ H, Ok c ad env os σ H → t D σ H
def Ret (c : Cn) (d : PyData) (D : Ends) : Prop := ∀ v H2, (∀ a o, c.H0 a = some o → ¬ c.M a → H2 a = some o) → Dn c.K c.N0 H2 v d → D.rt v H2
def RetF (c : Cn) (ds : List PyData) (D : Ends) : Prop := ∀ p H2 ws, c.H0 p = none → (∀ a o, c.H0 a = some o → ¬ c.M a → H2 a = some o) → H2 p = some (.lst ws) → DnAll c.K (fun a => c.N0 a ∨ a = p) H2 ws ds → D.rt (.ref p) H2
/-- such a state -/
def OkE (c : Cn) (env : Sy) (os : List SO) : St → Hp → Prop := fun σ H => ∃ ad, Ok c ad env os σ H
/-- a target takes a value -/
def Tg (c : Cn) (env : Sy) (os : List SO) (g : TG) (s : SV) (env' : Sy) (js : List Nat) : Prop := ∀ ad σ H v, Ok c ad env os σ H → SvOk c.K (Nof c ad os) ad os.length H v s → ∀ Q : St → Hp → Prop,
  (∀ σ', Ok c ad env' os σ' H → (∀ vs : List Nat, (∀ j ∈ js, j ∈ vs) → wipe σ' vs = wipe σ vs) → Q σ' H) → g v σ H Q
def Tgs (c : Cn) (env : Sy) (os : List SO) (g : TGs) (ds : List PyData) (env' : Sy) (js : List Nat) : Prop := ∀ ad σ H vs, Ok c ad env os σ H → DnAll c.K (Nof c ad os) H vs ds → ∀ Q : St → Hp → Prop,
  (∀ σ', Ok c ad env' os σ' H → (∀ vs : List Nat, (∀ j ∈ js, j ∈ vs) → wipe σ' vs = wipe σ vs) → Q σ' H) → g vs σ H Q
theorem wipe_set {σ : St} {j : Nat} {x : Option V} : ∀ {vs : List Nat}, j ∈ vs → wipe (σ.set j x) vs = wipe σ vs
  | v :: vs, h => by
    show (wipe (σ.set j x) vs).set v none = (wipe σ vs).set v none
    by_cases hj : j ∈ vs
    · rw [wipe_set hj]
    · have e : j = v := by
        rcases List.mem_cons.mp h with z | z
        · exact z
        · exact absurd z hj
      subst e
      have key : ∀ us : List Nat, j ∉ us → wipe (σ.set j x) us = (wipe σ us).set j x := by
        intro us
        induction us with
        | nil => intro _; rfl
        | cons u us ih =>
          intro hu
          have h1 : j ≠ u := fun z => hu (z ▸ List.mem_cons_self ..)
          have h2 : j ∉ us := fun z => hu (List.mem_cons_of_mem _ z)
          show (wipe (σ.set j x) us).set u none = ((wipe σ us).set u none).set j x
          rw [ih h2, List.set_comm _ _ h1]
      rw [key vs hj, List.set_set]
section
variable {w : Bool} {c : Cn} {env env' env'' : Sy} {os : List SO} {te ta tl : TE} {d : PyData} {g : TG} {u t v : TS} {D : Ends} {tt : TT}
theorem tg_name {j : Nat} {s : SV} : Tg c env os (gName j) s (env.set j (some s)) [j] := fun ad σ H v ok h Q q => q _ (ok.set h) fun vs hv => wipe_set (hv j (List.mem_cons_self ..))
theorem tgs_nil : Tgs c env os gNil [] env [] := fun ad σ H vs ok h Q q => by
  cases h
  exact ⟨rfl, q σ ok fun _ _ => rfl⟩
theorem tgs_cons {gs : TGs} {ds : List PyData} {js ks : List Nat} (h1 : Tg c env os g (.i d) env' js) (h2 : Tgs c env' os gs ds env'' ks) : Tgs c env os (gCons g gs) (d :: ds) env'' (js ++ ks) := fun ad σ H vs ok h Q q => by
  cases h with
  | cons a b =>
    refine ⟨_, _, rfl, h1 ad σ H _ ok a _ fun σ' ok' hw => h2 ad σ' H _ ok' b _ fun σ'' ok'' hw' => q σ'' ok'' fun vs hv => ?_⟩
    rw [hw' vs fun j hj => hv j (List.mem_append_right _ hj), hw vs fun j hj => hv j (List.mem_append_left _ hj)]
theorem tg_tup {gs : TGs} {ds : List PyData} {n : Nat} {js : List Nat} (h : Tgs c env os gs ds env' js) (hn : ds.length = n) : Tg c env os (gTup c.K n gs) (.i (.tuple ds)) env' js := fun ad σ H v ok r Q q => by
  cases (show Dn _ _ _ _ _ from r) with
  | tup r' a => exact ⟨_, _, rfl, r', a.length.trans hn, h ad σ H _ ok a Q q⟩
theorem gs_asg {i : Nat} (h : EvX false c env os te d) (k : Go c (env.set i (some (.i d))) os u D) : Go c env os (tSeq (tAsg te (gName i)) u) D := fun ad σ H ok =>
  h ad σ H ok _ fun v H2 e r => k ad _ H2 ((ok.ext e).set (by rw [Nw_false] at r; exact r))
theorem gs_asgF {i : Nat} {o : SO} (h : EvF c env os te o) (k : Go c (env.set i (some (.r os.length))) (os ++ [o]) u D) : Go c env os (tSeq (tAsg te (gName i)) u) D := fun ad σ H ok =>
  h ad σ H ok _ fun p H2 hp e r => by
    have h0 : c.H0 p = none ∨ c.M p := by
      by_cases hm : c.M p
      · exact Or.inr hm
      · refine Or.inl ?_
        cases hz : c.H0 p with
        | none => rfl
        | some o => rw [ok.ex p o hz hm] at hp; cases hp
    have ok2 := ok.new hp e h0 r
    refine k _ _ H2 (ok2.set (v := .ref p) (s := .r os.length) ⟨congrArg V.ref adN_same.symm, by simp⟩)
theorem gs_asgR {i k : Nat} (h : EvR c env os te k) (kk : Go c (env.set i (some (.r k))) os u D) : Go c env os (tSeq (tAsg te (gName i)) u) D := fun ad σ H ok =>
  h.2 ad σ H ok _ fun H2 e => kk ad _ H2 ((ok.ext e).set ⟨rfl, h.1⟩)
theorem gs_asgT {js : List Nat} (h : EvX false c env os te d) (ht : Tg c env os g (.i d) env' js) (k : Go c env' os u D) : Go c env os (tSeq (tAsg te g) u) D := fun ad σ H ok =>
  h ad σ H ok _ fun v H2 e r => ht ad σ H2 v (ok.ext e) (by rw [Nw_false] at r; exact r) _ fun σ' ok' _ => k ad σ' H2 ok'
theorem gs_if {b : Bool} (h : EvT c env os tt b) (h1 : b = true → Go c env os t { D with nx := u D }) (h2 : b = false → Go c env os v { D with nx := u D }) : Go c env os (tSeq (tIfS tt t v) u) D := fun ad σ H ok =>
  h ad σ H ok _ fun H2 e => by
    cases b with
    | true => exact h1 rfl ad σ H2 (ok.ext e)
    | false => exact h2 rfl ad σ H2 (ok.ext e)
theorem g_next (h : ∀ ad σ H, Ok c ad env os σ H → D.nx σ H) : Go c env os tNext D := h
theorem g_nextU (h : Go c env os u D) : Go c env os tNext { D with nx := u D } := h
/-- a join behind an if -/
theorem gs_cut {os' : List SO} (h1 : Go c env os t { D with nx := OkE c env' os' }) (h2 : Go c env' os' u D) : Go c env os (Evl.tCut t u) D := fun ad σ H ok =>
  ⟨OkE c env' os', h1 ad σ H ok, fun σ' H' ⟨ad', ok'⟩ => h2 ad' σ' H' ok'⟩
theorem gs_ret (h : EvX true c env os te d) (k : Ret c d D) : Go c env os (tSeq (tRet te) u) D := fun ad σ H ok =>
  h ad σ H ok _ fun v H2 e r => k v H2 (ok.ext e).ex (r.sub fun a z => Or.inl z)
theorem gs_retF {ds : List PyData} (h : EvF c env os te (.lst (ds.map SV.i))) (hM : ∀ a, ¬ c.M a) (k : RetF c ds D) : Go c env os (tSeq (tRet te) u) D := fun ad σ H ok =>
  h ad σ H ok _ fun p H2 hp e r => by
    obtain ⟨vs, h1, h2⟩ := r
    refine k p H2 vs ?_ (ok.ext e).ex h1 ((paired_dn h2).sub fun a z => z.elim (fun y => Or.inl (Or.inl y)) Or.inr)
    cases hz : c.H0 p with
    | none => rfl
    | some o => rw [ok.ex p o hz (hM p)] at hp; cases hp
theorem gs_retO {k : Nat} {ds : List PyData} (h : EvR c env os te k) (hk : os[k]? = some (.lst (ds.map SV.i))) (hM : ∀ a, ¬ c.M a) (q : RetF c ds D) : Go c env os (tSeq (tRet te) u) D := fun ad σ H ok =>
  h.2 ad σ H ok _ fun H2 e => by
    have ok2 := ok.ext e
    obtain ⟨h0, vs, h1, h2⟩ := ok2.obj k _ hk rfl
    refine q (ad k) H2 vs (h0.resolve_right (hM _)) ok2.ex h1 ((paired_dn h2).sub fun a z => ?_)
    rcases z with z | z
    · exact Or.inl z
    · exact Or.inr ⟨k, ⟨_, hk, rfl⟩, z⟩
theorem gs_drop (h : EvX w c env os te d) (k : Go c env os u D) : Go c env os (tSeq (tDrop te) u) D := fun ad σ H ok => h ad σ H ok _ fun v H2 e r => k ad σ H2 (ok.ext e)
theorem paired_snoc {α β : Type} {F : α → β → Prop} {a : α} {b : β} : ∀ {l₁ : List α} {l₂ : List β}, Paired F l₁ l₂ → F a b → Paired F (l₁ ++ [a]) (l₂ ++ [b])
  | _, _, .nil, h => .cons h .nil
  | _, _, .cons r t, h => .cons r (paired_snoc t h)
/-- xs.append(e) -/
theorem gs_app {k : Nat} {ss : List SV} {s : SV} (hl : EvR c env os tl k) (hk : os[k]? = some (.lst ss)) (h : EvS c env os te s) (hz : ss.length < 100000) (kk : Go c env (os.set k (.lst (ss ++ [s]))) u D) : Go c env os (tSeq (tDrop (tBM c.K "list" rAppend tl (tCons te tNil))) u) D := fun ad σ H ok =>
  hl.2 ad σ H ok _ fun H1 e1 => by
    have ok1 := ok.ext e1
    obtain ⟨_, vs, hvs, pv⟩ := ok1.obj k _ hk rfl
    refine ⟨Or.inl ⟨rfl, vs, SqL.of hvs⟩, ?_⟩
    have fin : ∀ v H2, Ex H1 H2 → SvOk c.K (Nof c ad os) ad os.length H2 v s → tNil σ H2 fun xs H3 => rAppend (.ref (ad k)) (v :: xs) H3 fun _ H4 => u D σ H4 := fun v H2 e2 r => by
      have ok2 := ok1.ext e2
      have hv2 := e2 _ _ hvs
      refine ⟨ad k, vs, v, rfl, rfl, hv2, Nat.lt_of_lt_of_le (by rw [Paired.length pv]; exact hz) (by decide), ?_⟩
      refine kk ad σ _ (ok2.mut hk rfl rfl ⟨vs ++ [v], upd_same, ?_⟩)
      have hN : Nof c ad os (ad k) := Or.inr ⟨k, ⟨_, hk, rfl⟩, rfl⟩
      exact paired_snoc (Paired.imp pv fun _ _ z => (z.ext e2).mut hv2 rfl hN) (r.mut hv2 rfl hN)
    cases s with
    | i d => exact (show EvX false c env os te d from h) ad σ H1 ok1 _ fun v H2 e2 r => fin v H2 e2 (by rw [Nw_false] at r; exact r)
    | t ks => exact (show EvK c env os te ks from h).2 ad σ H1 ok1 _ fun b H2 e2 r => fin _ H2 e2 ⟨b, rfl, r, (show EvK c env os te ks from h).1⟩
    | ob C m => exact (show EvB c env os te C m from h) ad σ H1 ok1 _ fun v H2 e2 r => fin v H2 e2 r
    | r j => exact (show EvR c env os te j from h).2 ad σ H1 ok1 _ fun H2 e2 => fin _ H2 e2 ⟨rfl, (show EvR c env os te j from h).1⟩
/-- x += e, ints -/
theorem gs_aug {i : Nat} {f : Int → Int → Int} {a b : Int} (hx : env[i]? = some (some (.i (.int a)))) (h : EvX true c env os te (.int b)) (k : Go c (env.set i (some (.i (.int (f a b))))) os u D) : Go c env os (tSeq (tAug i te (ipI f)) u) D := fun ad σ H ok => by
  obtain ⟨v, h1, h2⟩ := ok.val i _ hx
  cases dn_int (show Dn _ _ _ _ _ from h2)
  exact ⟨.int a, h1, h ad σ H ok _ fun v H2 e r => ⟨a, b, rfl, dn_int r, k ad _ H2 ((ok.ext e).set (show Dn _ _ _ _ _ from .int _))⟩⟩
/-- less is known -/
theorem gs_weak {os' : List SO} (he : WkE env env') (ho : WkO os os') (l1 : EnLt os'.length env') (l2 : OsLt os'.length os') (l3 : c.lo ≤ os'.length) (k : Go c env' os' u D) : Go c env os u D := fun ad σ H ok => k ad σ H (ok.weak he ho l1 l2 l3)
theorem gs_own {i k : Nat} {ds : List PyData} (hi : env[i]? = some (some (.r k))) (hk : os[k]? = some (.lst (ds.map SV.i))) (kk : Go c (env.set i (some (.i (.list ds)))) (os.set k .x) u D) : Go c env os u D := fun ad σ H ok => kk ad σ H (ok.own hi hk)
/-- the state as it is told elsewhere -/
theorem gs_is {os' : List SO} (h1 : env = env') (h2 : os = os') (k : Go c env' os' u D) : Go c env os u D := by subst h1 h2; exact k
end

/-! ### what is walked -/
structure WalkD (c : Cn) (J : It) (n : Nat) (it : Nat → SV) (G : List SO → Prop) : Prop where
  goes : ∀ i ad env os σ H, i < n → Ok c ad env os σ H → G os → J.go i H
  stops : ∀ ad env os σ H, Ok c ad env os σ H → G os → J.stop n H
  yields : ∀ i ad env os σ H x H', i < n → Ok c ad env os σ H → G os → J.yld i H x H' → Ex H H' ∧ SvOk c.K (Nof c ad os) ad os.length H' x (it i)
/-- wi walks the n things it -/
def EvW (c : Cn) (env : Sy) (os : List SO) (wi : TI) (n : Nat) (it : Nat → SV) (G : List SO → Prop) : Prop := ∀ ad σ H, Ok c ad env os σ H → ∀ R : It → Hp → Prop,
  (∀ J H1 fr, Ex H H1 → Ok (c.w fr os.length) ad env os σ H1 → (∀ ad' env' os' σ' H', Ok (c.w fr os.length) ad' env' os' σ' H' → Ok c ad' env' os' σ' H') → WalkD (c.w fr os.length) J n it G → R J H1) → wi σ H R
/-- what is known outside is known inside -/
def Up (c c' : Cn) : Prop := ∀ ad env os σ H, Ok c' ad env os σ H → Ok c ad env os σ H
section
variable {c : Cn} {env : Sy} {os : List SO} {te tl : TE} {ad : Nat → Addr} {σ : St} {H : Hp}
theorem up_pin (ok : Ok c ad env os σ H) {v : V} {s : SV} : Up c (c.w ((v, s) :: c.fr) os.length) := fun ad' env' os' σ' H' o => ⟨o.len, o.ex, o.n0, o.val, o.obj, o.inj, o.nn, fun p hp => by
  have h1 := o.frm p (List.mem_cons_of_mem _ hp)
  have h2 := ok.frm p hp
  obtain ⟨x, y⟩ := p
  cases y with
  | i d => exact h1
  | t ks => exact h1
  | ob C m => exact h1
  | r k => exact ⟨h1.1, h2.2⟩, Nat.le_trans ok.low o.low⟩
theorem up_pin0 (ok : Ok c ad env os σ H) : Up c (c.w c.fr os.length) := fun ad' env' os' σ' H' o => ⟨o.len, o.ex, o.n0, o.val, o.obj, o.inj, o.nn, fun p hp => by
  have h1 := o.frm p hp
  have h2 := ok.frm p hp
  obtain ⟨x, y⟩ := p
  cases y with
  | i d => exact h1
  | t ks => exact h1
  | ob C m => exact h1
  | r k => exact ⟨h1.1, h2.2⟩, Nat.le_trans ok.low o.low⟩
theorem sql_of_dn {K : PySem.W.Frag} {N : Addr → Prop} {H : Hp} {a : Addr} {ds : List PyData} (h : Dn K N H (.ref a) (.list ds)) : ∃ xs, SqL K H a xs ∧ DnAll K N H xs ds := by
  cases h with
  | lst r n a => exact ⟨_, Or.inl r, a⟩
  | lstK r a => exact ⟨_, Or.inr r, a⟩
theorem dn_list_ref {K : PySem.W.Frag} {N : Addr → Prop} {H : Hp} {v : V} {ds : List PyData} (h : Dn K N H v (.list ds)) : ∃ a, v = .ref a := by cases h <;> exact ⟨_, rfl⟩
theorem dn_tup_ref {K : PySem.W.Frag} {N : Addr → Prop} {H : Hp} {v : V} {ds : List PyData} (h : Dn K N H v (.tuple ds)) : ∃ a xs, v = .ref a ∧ SqT K H a xs ∧ DnAll K N H xs ds := by
  cases h with
  | tup r a => exact ⟨_, _, rfl, r, a⟩
def itD (ds : List PyData) : Nat → SV := fun i => .i (ds.getD i .none)
theorem itD_at {ds : List PyData} {i : Nat} {d : PyData} (h : ds[i]? = some d) : itD ds i = .i d := by
  unfold itD
  rw [List.getD_eq_getElem?_getD, h]
  rfl
/-- a list of data -/
theorem ew_list {ds : List PyData} (h : EvX false c env os tl (.list ds)) : EvW c env os (iList c.K tl) ds.length (itD ds) (fun _ => True) := fun ad σ H ok R q =>
  h ad σ H ok _ fun v H1 e r => by
    rw [Nw_false] at r
    obtain ⟨a, rfl⟩ := dn_list_ref r
    obtain ⟨xs, hs, _⟩ := sql_of_dn r
    refine ⟨a, rfl, ⟨xs, hs⟩, q _ H1 ((.ref a, .i (.list ds)) :: c.fr) e ((ok.ext e).pin r) (up_pin (ok.ext e)) ⟨fun i ad' env' os' σ' H' hi o _ => ?_, fun ad' env' os' σ' H' o _ => ?_, fun i ad' env' os' σ' H' x H'' hi o _ y => ?_⟩⟩
    all_goals
      have r' : Dn c.K (Nof c ad' os') H' (.ref a) (.list ds) := o.frm _ (List.mem_cons_self ..)
      obtain ⟨ys, hy, ay⟩ := sql_of_dn r'
    · exact ⟨ys, ys[i]'(by rw [ay.length]; exact hi), hy, List.getElem?_eq_getElem _⟩
    · exact ⟨ys, hy, by rw [ay.length]; exact Nat.le_refl _⟩
    · obtain ⟨rfl, y⟩ := y
      refine ⟨Ex.refl _, ?_⟩
      obtain ⟨d, h1, h2⟩ := ay.getV (y ys hy)
      rw [itD_at h1]
      exact h2
/-- a list of the store -/
theorem ew_own {k : Nat} {ss : List SV} (h : EvR c env os tl k) (hk : os[k]? = some (.lst ss)) : EvW c env os (iList c.K tl) ss.length (fun i => ss.getD i (.i .none)) (fun os' => os'[k]? = some (.lst ss)) := fun ad σ H ok R q =>
  h.2 ad σ H ok _ fun H1 e => by
    have ok1 := ok.ext e
    obtain ⟨_, vs, h1, _⟩ := ok1.obj k _ hk rfl
    refine ⟨ad k, rfl, ⟨vs, SqL.of h1⟩, q _ H1 ((.ref (ad k), .r k) :: c.fr) e (ok1.pin ⟨rfl, h.1⟩) (up_pin ok1) ⟨fun i ad' env' os' σ' H' hi o g => ?_, fun ad' env' os' σ' H' o g => ?_, fun i ad' env' os' σ' H' x H'' hi o g y => ?_⟩⟩
    all_goals
      have r' := o.frm (.ref (ad k), .r k) (List.mem_cons_self ..)
      have r2 : ad k = ad' k := V.ref.inj r'.1
      obtain ⟨_, ys, hy, ay⟩ := o.obj k _ g rfl
      rw [← r2] at hy
    · exact ⟨ys, ys[i]'(by rw [Paired.length ay]; exact hi), SqL.of hy, List.getElem?_eq_getElem _⟩
    · exact ⟨ys, SqL.of hy, by rw [Paired.length ay]; exact Nat.le_refl _⟩
    · obtain ⟨rfl, y⟩ := y
      refine ⟨Ex.refl _, ?_⟩
      obtain ⟨d, h1, h2⟩ := paired_getL ay (y ys (SqL.of hy))
      rw [List.getD_eq_getElem?_getD, h1]
      exact h2
/-- a tuple -/
theorem ew_tup {ds : List PyData} (h : EvX false c env os tl (.tuple ds)) : EvW c env os (iTup c.K tl) ds.length (itD ds) (fun _ => True) := fun ad σ H ok R q =>
  h ad σ H ok _ fun v H1 e r => by
    rw [Nw_false] at r
    obtain ⟨a, xs, rfl, hs, _⟩ := dn_tup_ref r
    refine ⟨a, rfl, ⟨xs, hs⟩, q _ H1 ((.ref a, .i (.tuple ds)) :: c.fr) e ((ok.ext e).pin r) (up_pin (ok.ext e)) ⟨fun i ad' env' os' σ' H' hi o _ => ?_, fun ad' env' os' σ' H' o _ => ?_, fun i ad' env' os' σ' H' x H'' hi o _ y => ?_⟩⟩
    all_goals
      have r' : Dn c.K (Nof c ad' os') H' (.ref a) (.tuple ds) := o.frm _ (List.mem_cons_self ..)
      obtain ⟨a', ys, ea, hy, ay⟩ := dn_tup_ref r'
      cases ea
    · exact ⟨ys, ys[i]'(by rw [ay.length]; exact hi), hy, List.getElem?_eq_getElem _⟩
    · exact ⟨ys, hy, by rw [ay.length]; exact Nat.le_refl _⟩
    · obtain ⟨rfl, y⟩ := y
      refine ⟨Ex.refl _, ?_⟩
      obtain ⟨d, h1, h2⟩ := ay.getV (y ys hy)
      rw [itD_at h1]
      exact h2
theorem ew_range1 {ta : TA} {n : Int} (h : EvA true c env os ta [.int n]) (hn : -1000000000000 ≤ n ∧ n ≤ 1000000000000) : EvW c env os (iRng1 ta) n.toNat (fun i => .i (.int (i : Int))) (fun _ => True) := fun ad σ H ok R q =>
  h ad σ H ok _ fun vs H1 e r => by
    cases r with
    | cons a b =>
      cases b
      cases dn_int a
      refine ⟨n, rfl, by omega, by omega, q _ H1 c.fr e (ok.ext e).pin0 (up_pin0 (ok.ext e)) ⟨fun i ad' env' os' σ' H' hi o _ => hi, fun ad' env' os' σ' H' o _ => Nat.le_refl _, fun i ad' env' os' σ' H' x H'' hi o _ y => ?_⟩⟩
      obtain ⟨rfl, rfl⟩ := y
      refine ⟨Ex.refl _, ?_⟩
      rw [Int.zero_add]
      exact Dn.int _
theorem ew_range2 {ta : TA} {lo hi : Int} (h : EvA true c env os ta [.int lo, .int hi]) (h1 : -1000000000000000000 ≤ lo ∧ lo ≤ 1000000000000000000) (h2 : -1000000000000000000 ≤ hi ∧ hi ≤ 1000000000000000000) : EvW c env os (iRng2 ta) (hi - lo).toNat (fun i => .i (.int (lo + (i : Int)))) (fun _ => True) := fun ad σ H ok R q =>
  h ad σ H ok _ fun vs H1 e r => by
    cases r with
    | cons a b =>
      cases b with
      | cons a' b' =>
        cases b'
        cases dn_int a
        cases dn_int a'
        refine ⟨lo, hi, rfl, ⟨by omega, by omega, by omega, by omega⟩, q _ H1 c.fr e (ok.ext e).pin0 (up_pin0 (ok.ext e)) ⟨fun i ad' env' os' σ' H' hi o _ => hi, fun ad' env' os' σ' H' o _ => Nat.le_refl _, fun i ad' env' os' σ' H' x H'' hi o _ y => ?_⟩⟩
        obtain ⟨rfl, rfl⟩ := y
        exact ⟨Ex.refl _, Dn.int _⟩
end

/-! ### loops -/
section
variable {c : Cn} {env : Sy} {os : List SO} {g : TG} {tb u : TS} {D : Ends}
/-- a for: E, O the slots and the store by the number of turns done -/
theorem gs_for {wi : TI} {n : Nat} {it : Nat → SV} {G : List SO → Prop} (E : Nat → Sy) (O : Nat → List SO) (hw : EvW c env os wi n it G)
    (h0 : ∀ c' : Cn, c'.lo = os.length → ∀ ad σ H, Ok c' ad env os σ H → Ok c' ad (E 0) (O 0) σ H) (hG : ∀ i, i ≤ n → G (O i))
    (hs : ∀ fr, Up c (c.w fr os.length) → ∀ i, i < n → ∃ env' js, Tg (c.w fr os.length) (E i) (O i) g (it i) env' js ∧ Go (c.w fr os.length) env' (O i) tb { D with nx := OkE (c.w fr os.length) (E (i + 1)) (O (i + 1)), ct := OkE (c.w fr os.length) (E (i + 1)) (O (i + 1)), bk := u D })
    (hd : Go c (E n) (O n) u D) : Go c env os (tSeq (tFor wi g tb) u) D := fun ad σ H ok => by
  refine hw ad σ H ok _ fun J H1 fr e ok1 up W => ?_
  refine ⟨fun i m σ H => m = n - i ∧ i ≤ n ∧ OkE (c.w fr os.length) (E i) (O i) σ H, ⟨n, by simp, Nat.zero_le _, ad, h0 _ rfl ad σ H1 ok1⟩, ?_⟩
  rintro i m σ H ⟨rfl, hi, ad', ok'⟩
  by_cases hlt : i < n
  · refine .inr ⟨W.goes i _ _ _ _ _ hlt ok' (hG i hi), OkE (c.w fr os.length) (E (i + 1)) (O (i + 1)), fun σ' H' p' => ⟨n - (i + 1), by omega, rfl, hlt, p'⟩, fun x H' y => ?_⟩
    obtain ⟨e2, r⟩ := W.yields i _ _ _ _ _ x H' hlt ok' (hG i hi) y
    obtain ⟨env', js, ht, hb⟩ := hs fr up i hlt
    exact ht ad' σ H' x (ok'.ext e2) r _ fun σ2 ok2 _ => hb ad' σ2 H' ok2
  · have q : i = n := by omega
    subst q
    exact .inl ⟨W.stops _ _ _ _ _ ok' (hG i hi), hd ad' σ H (up _ _ _ _ _ ok')⟩
/-- .. over the list of the e x, x in xs; E, O by the part that is done -/
theorem gs_forL {α : Type} {wi : TI} {xs : List α} {e : α → SV} {n : Nat} {it : Nat → SV} {G : List SO → Prop} (E : List α → Sy) (O : List α → List SO) (hw : EvW c env os wi n it G) (hn : n = xs.length) (hit : ∀ i x, xs[i]? = some x → it i = e x)
    (h0 : ∀ c' : Cn, c'.lo = os.length → ∀ ad σ H, Ok c' ad env os σ H → Ok c' ad (E []) (O []) σ H) (hG : ∀ pre post, xs = pre ++ post → G (O pre))
    (hs : ∀ fr, Up c (c.w fr os.length) → ∀ pre x post, xs = pre ++ x :: post → ∃ env' js, Tg (c.w fr os.length) (E pre) (O pre) g (e x) env' js ∧ Go (c.w fr os.length) env' (O pre) tb { D with nx := OkE (c.w fr os.length) (E (pre ++ [x])) (O (pre ++ [x])), ct := OkE (c.w fr os.length) (E (pre ++ [x])) (O (pre ++ [x])), bk := u D })
    (hd : Go c (E xs) (O xs) u D) : Go c env os (tSeq (tFor wi g tb) u) D := by
  subst hn
  refine gs_for (fun i => E (xs.take i)) (fun i => O (xs.take i)) hw (fun c' hc => by simpa using h0 c' hc) (fun i hi => hG _ (xs.drop i) (List.take_append_drop i xs).symm) (fun fr up i hi => ?_) (by simpa using hd)
  have e1 : xs = xs.take i ++ xs[i] :: xs.drop (i + 1) := by
    rw [List.getElem_cons_drop]; exact (List.take_append_drop i xs).symm
  obtain ⟨env', js, h1, h2⟩ := hs fr up (xs.take i) xs[i] (xs.drop (i + 1)) e1
  rw [hit i xs[i] (List.getElem?_eq_getElem hi)]
  refine ⟨env', js, h1, ?_⟩
  have e2 : xs.take (i + 1) = xs.take i ++ [xs[i]] := by rw [List.take_succ, List.getElem?_eq_getElem hi]; rfl
  simp only [e2]
  exact h2
/-- break: what is behind the loop -/
theorem gs_break {c' : Cn} {v : TS} (up : Up c c') (h : Go c env os u D) {D' : Ends} (hD : D'.bk = u D) : Go c' env os (tSeq tBreak v) D' := fun ad σ H ok => by
  show D'.bk σ H
  rw [hD]
  exact h ad σ H (up _ _ _ _ _ ok)
theorem gs_cont {v : TS} (h : ∀ ad σ H, Ok c ad env os σ H → D.ct σ H) : Go c env os (tSeq tCont v) D := h
/-- while -/
theorem gs_while {S : Type} {tc : TT} (E : S → Sy) (O : S → List SO) (P : S → Prop) (b : S → Bool) (μ : S → Nat) (s0 : S) (h0 : ∀ c' : Cn, c'.lo = os.length → ∀ ad σ H, Ok c' ad env os σ H → Ok c' ad (E s0) (O s0) σ H) (p0 : P s0)
    (ht : ∀ fr, Up c (c.w fr os.length) → ∀ s, P s → EvT (c.w fr os.length) (E s) (O s) tc (b s))
    (hs : ∀ fr, Up c (c.w fr os.length) → ∀ s, P s → b s = true → Go (c.w fr os.length) (E s) (O s) tb { D with nx := fun σ H => ∃ s', P s' ∧ μ s' < μ s ∧ OkE (c.w fr os.length) (E s') (O s') σ H, ct := fun σ H => ∃ s', P s' ∧ μ s' < μ s ∧ OkE (c.w fr os.length) (E s') (O s') σ H, bk := u D })
    (hd : ∀ s, P s → b s = false → Go c (E s) (O s) u D) : Go c env os (tSeq (tWhile tc tb) u) D := fun ad σ H ok => by
  have up := up_pin0 ok
  refine ⟨fun m σ H => ∃ s, P s ∧ m = μ s ∧ OkE (c.w c.fr os.length) (E s) (O s) σ H, ⟨_, s0, p0, rfl, ad, h0 _ rfl ad σ H ok.pin0⟩, ?_⟩
  rintro m σ H ⟨s, ps, rfl, ad', ok'⟩
  refine ht _ up s ps ad' σ H ok' _ fun H2 e2 => ?_
  cases hb : b s with
  | true =>
    rw [if_pos rfl]
    refine ⟨fun σ H => ∃ s', P s' ∧ μ s' < μ s ∧ OkE (c.w c.fr os.length) (E s') (O s') σ H, ?_, hs _ up s ps hb ad' σ H2 (ok'.ext e2)⟩
    rintro σ' H' ⟨s', p', hm, ok2⟩
    exact ⟨μ s', hm, s', p', rfl, ok2⟩
  | false =>
    rw [if_neg (by decide)]
    exact hd s ps hb ad' σ H2 (up _ _ _ _ _ (ok'.ext e2))
end
end DL

set_option Elab.async false
set_option linter.all false
set_option maxRecDepth 100000
set_option maxHeartbeats 2000000
/-! The data layer: comprehensions, types, a def's start. -/
namespace DL
open PySem L2
open Evl (Ex Ex.refl Ex.trans Ex.new)

/-! ### comprehensions -/
def wipeE (env : Sy) : List Nat → Sy
  | [] => env
  | v :: vs => (wipeE env vs).set v none
theorem Ok.wipe {c : Cn} {ad : Nat → Addr} {env : Sy} {os : List SO} {σ : St} {H : Hp} (ok : Ok c ad env os σ H) : ∀ vs : List Nat, Ok c ad (wipeE env vs) os (wipe σ vs) H
  | [] => ok
  | _ :: vs => (Ok.wipe ok vs).setU
section
variable {c : Cn} {env : Sy} {os : List SO} {g : TG} {tt : TT} {te : TE}
theorem ef_lc {α : Type} {wi : TI} {n : Nat} {it : Nat → SV} {G : List SO → Prop} {xs : List α} {e : α → SV} {vs : List Nat} (p : α → Bool) (f : α → PyData) (hw : EvW c env os wi n it G) (hn : n = xs.length) (hit : ∀ i x, xs[i]? = some x → it i = e x)
    (hG : ∀ o, G (os ++ [o])) (hz : xs.length ≤ 40000)
    (hs : ∀ fr lo, Up c (c.w fr lo) → ∀ acc x, x ∈ xs → ∃ env' js, (∀ j ∈ js, j ∈ vs) ∧ Tg (c.w fr lo) (wipeE env vs) (os ++ [.lst acc]) g (e x) env' js ∧ EvT (c.w fr lo) env' (os ++ [.lst acc]) tt (p x) ∧ (p x = true → EvX false (c.w fr lo) env' (os ++ [.lst acc]) te (f x))) :
    EvF c env os (tLc wi g tt te vs) (.lst (((xs.filter p).map f).map SV.i)) := fun ad σ H ok Q q => by
  subst hn
  refine hw ad σ H ok _ fun J H1 fr e1 ok1 up W D hD => ?_
  have h0 : (c.w fr os.length).H0 D = none ∨ (c.w fr os.length).M D := by
    by_cases hm : c.M D
    · exact Or.inr hm
    · refine Or.inl ?_
      show c.H0 D = none
      cases hz : c.H0 D with
      | none => rfl
      | some o => rw [ok1.ex D o hz hm] at hD; cases hD
  have ok2 := ok1.new (o := .lst []) hD (Ex.new (o := .lst []) hD) h0 ⟨[], upd_same, .nil⟩
  have ok3 := ok2.pin (v := .ref D) (s := .r os.length) ⟨congrArg V.ref adN_same.symm, by simp⟩
  have ok4 := ok3.wipe vs
  have up2 := up_pin (v := .ref D) (s := .r os.length) ok2
  generalize hlo : (os ++ [SO.lst []]).length = lo at ok4 up2
  generalize hfr : ((V.ref D, SV.r os.length) :: fr) = fr' at ok4 up2
  have upc : Up c (c.w fr' lo) := fun a b d e f z => up _ _ _ _ _ (up2 _ _ _ _ _ z)
  let acc : Nat → List SV := fun i => (((xs.take i).filter p).map f).map SV.i
  have hacc : ∀ i, (acc i).length ≤ i := fun i => by
    show ((((xs.take i).filter p).map f).map SV.i).length ≤ i
    rw [List.length_map, List.length_map]
    have h1 := List.length_filter_le p (xs.take i)
    rw [List.length_take] at h1
    omega
  refine ⟨fun i m H => m = xs.length - i ∧ i ≤ xs.length ∧ Ok (c.w fr' lo) (adN ad os.length D) (wipeE env vs) (os ++ [.lst (acc i)]) (wipe σ vs) H ∧ Ex H1 H, ⟨xs.length, by simp, Nat.zero_le _, ok4, Ex.new hD⟩, ?_⟩
  rintro i m H' ⟨rfl, hi, ok', ex1⟩
  have hget : (os ++ [SO.lst (acc i)])[os.length]? = some (.lst (acc i)) := by simp
  by_cases hlt : i < xs.length
  · have e0 : xs[i]? = some xs[i] := List.getElem?_eq_getElem hlt
    have et : xs.take (i + 1) = xs.take i ++ [xs[i]] := by rw [List.take_succ, e0]; rfl
    refine .inr ⟨W.goes i _ _ _ _ _ hlt (up2 _ _ _ _ _ ok') (hG _), fun H'' => Ok (c.w fr' lo) (adN ad os.length D) (wipeE env vs) (os ++ [.lst (acc (i + 1))]) (wipe σ vs) H'' ∧ Ex H1 H'', fun H'' p' => ⟨xs.length - (i + 1), by omega, rfl, hlt, p'.1, p'.2⟩, fun x H'' y => ?_⟩
    obtain ⟨e2, r⟩ := W.yields i _ _ _ _ _ x H'' hlt (up2 _ _ _ _ _ ok') (hG _) y
    rw [hit i xs[i] e0] at r
    have ok5 := ok'.ext e2
    obtain ⟨env', js, hjs, ht, hb, he⟩ := hs fr' lo upc (acc i) xs[i] (List.getElem_mem hlt)
    refine ht _ _ H'' x ok5 r _ fun σ2 ok6 hwp => ⟨?_, hb _ σ2 H'' ok6 _ fun H3 e3 => ?_⟩
    · rw [hwp vs hjs]
      have idem : ∀ (us : List Nat) (τ : St), (∀ j ∈ us, τ[j]? = some none ∨ τ[j]? = none) → wipe τ us = τ := by
        intro us
        induction us with
        | nil => intro τ _; rfl
        | cons u us ih =>
          intro τ h
          show (wipe τ us).set u none = τ
          rw [ih τ fun j hj => h j (List.mem_cons_of_mem _ hj)]
          rcases h u (List.mem_cons_self ..) with z | z
          · obtain ⟨h1, h2⟩ := List.getElem?_eq_some_iff.mp z
            exact List.ext_getElem? fun k => by
              by_cases q : u = k
              · subst q; rw [List.getElem?_set_self h1, z]
              · rw [List.getElem?_set_ne q]
          · exact List.set_eq_of_length_le (List.getElem?_eq_none_iff.mp z)
      refine idem vs _ fun j hj => ?_
      cases hx : (wipe σ vs)[j]? with
      | none => exact Or.inr rfl
      | some o =>
        cases o with
        | none => exact Or.inl rfl
        | some v => exact absurd hj (wipe_some hx).2
    · cases hp : p xs[i] with
      | false =>
        rw [if_neg (by decide)]
        have ea : acc (i + 1) = acc i := by
          show (((xs.take (i + 1)).filter p).map f).map SV.i = _
          rw [et, List.filter_append, List.filter_cons, if_neg (by rw [hp]; decide), List.filter_nil, List.append_nil]
        rw [ea]
        exact ⟨ok5.ext e3, (ex1.trans e2).trans e3⟩
      | true =>
        rw [if_pos rfl]
        refine he hp _ σ2 H3 (ok6.ext e3) _ fun y H4 e4 ry => ?_
        have ok7 := (ok5.ext e3).ext e4
        obtain ⟨_, ws, hws, pws⟩ := ok7.obj os.length _ hget rfl
        rw [adN_same] at hws
        have ea : acc (i + 1) = acc i ++ [SV.i (f xs[i])] := by
          show (((xs.take (i + 1)).filter p).map f).map SV.i = _
          rw [et, List.filter_append, List.filter_cons, if_pos hp, List.filter_nil, List.map_append, List.map_append]
          rfl
        refine ⟨ws, hws, ?_, ?_⟩
        · rw [Paired.length pws]
          exact Nat.lt_of_le_of_lt (hacc i) (Nat.lt_of_lt_of_le (show i < 40000 by omega) (by decide))
        · have hN : Nof (c.w fr' lo) (adN ad os.length D) (os ++ [SO.lst (acc i)]) D := Or.inr ⟨os.length, ⟨_, hget, rfl⟩, adN_same.symm⟩
          rw [Nw_false] at ry
          have m := ok7.mut (o' := .lst (acc (i + 1))) (u' := .lst (ws ++ [y])) hget rfl rfl (by
            rw [adN_same]
            refine ⟨_, upd_same, ?_⟩
            rw [ea]
            exact paired_snoc (Paired.imp pws fun _ _ z => z.mut hws rfl hN) (show Dn _ _ _ _ _ from Dn.mut hws rfl hN ry))
          rw [adN_same] at m
          have es : (os ++ [SO.lst (acc i)]).set os.length (SO.lst (acc (i + 1))) = os ++ [SO.lst (acc (i + 1))] := by
            rw [List.set_append_right _ _ (Nat.le_refl _), Nat.sub_self]
            rfl
          rw [es] at m
          refine ⟨m, fun a o h => ?_⟩
          rw [upd_ne (ne_of_none h hD)]
          exact ((ex1.trans e2).trans e3).trans e4 a o h
  · have q : i = xs.length := by omega
    subst q
    have ea : acc xs.length = ((xs.filter p).map f).map SV.i := by
      show (((xs.take xs.length).filter p).map f).map SV.i = _
      rw [List.take_length]
    refine .inl ⟨W.stops _ _ _ _ _ (up2 _ _ _ _ _ ok') (hG _), ?_⟩
    obtain ⟨_, ws, hws, pws⟩ := ok'.obj os.length _ hget rfl
    rw [adN_same] at hws
    refine q D H' (e1.free hD) (e1.trans ex1) ⟨ws, hws, ?_⟩
    have hget2 := hget
    rw [ea] at pws hget2
    refine dn_paired ((paired_dn pws).sub fun a z => ?_)
    rcases z with z | z
    · rcases z with z | ⟨k, ⟨o, h1, h2⟩, z⟩
      · exact Or.inl z
      · have hk : k < os.length := (List.getElem?_eq_some_iff.mp h1).1
        exact Or.inr ⟨k, ⟨o, by rw [List.getElem?_append_left hk]; exact h1, h2⟩, by rw [adN_ne (by omega)]; exact z⟩
    · exact Or.inr ⟨os.length, ⟨_, hget2, rfl⟩, by rw [adN_same]; exact z⟩
end

/-! ### types -/
def tyN : PyData → String
  | .none => "NoneType"
  | .bool _ => "bool"
  | .int _ => "int"
  | .str _ => "str"
  | .list _ => "list"
  | .tuple _ => "tuple"
  | .dict _ => "dict"
theorem tyx_of {K : PySem.W.Frag} {N : Addr → Prop} {H : Hp} {v : V} {d : PyData} (h : Dn K N H v d) : TyX K H v (.type (tyN d)) := by
  cases h with
  | non => exact .base .non
  | bl b => exact .base (.bl b)
  | int i => exact .base (.int i)
  | str x => exact .base (.str x)
  | lst r n a =>
    rcases r with r | ⟨o, r⟩
    · exact .base (.lst r)
    · exact .base (.frz r)
  | lstK r a =>
    obtain ⟨o, its, n, h1, h2, _⟩ := r
    exact .kList h1 h2
  | tup r a =>
    rcases r with (r | ⟨o, r⟩) | ⟨o, its, n, h1, h2, _⟩
    · exact .base (.tup r)
    · exact .fTuple r
    · exact .kTuple h1 h2
  | dkk r n a =>
    rcases r with r | ⟨o, r⟩
    · exact .base (.dK r)
    · exact .fDict r
  | dkt r n a => exact .base (.dT r)
theorem kit_int_int : kitB "int" "int" = some true := by decide +kernel
theorem kit_int_bool : kitB "int" "bool" = some false := by decide +kernel
theorem kit_int_str : kitB "int" "str" = some false := by decide +kernel
theorem kit_int_tuple : kitB "int" "tuple" = some false := by decide +kernel
theorem kit_int_list : kitB "int" "list" = some false := by decide +kernel
theorem kit_int_dict : kitB "int" "dict" = some false := by decide +kernel
theorem kit_bool_int : kitB "bool" "int" = some true := by decide +kernel
theorem kit_bool_bool : kitB "bool" "bool" = some true := by decide +kernel
theorem kit_bool_str : kitB "bool" "str" = some false := by decide +kernel
theorem kit_bool_tuple : kitB "bool" "tuple" = some false := by decide +kernel
theorem kit_bool_list : kitB "bool" "list" = some false := by decide +kernel
theorem kit_bool_dict : kitB "bool" "dict" = some false := by decide +kernel
theorem kit_str_int : kitB "str" "int" = some false := by decide +kernel
theorem kit_str_bool : kitB "str" "bool" = some false := by decide +kernel
theorem kit_str_str : kitB "str" "str" = some true := by decide +kernel
theorem kit_str_tuple : kitB "str" "tuple" = some false := by decide +kernel
theorem kit_str_list : kitB "str" "list" = some false := by decide +kernel
theorem kit_str_dict : kitB "str" "dict" = some false := by decide +kernel
theorem kit_tuple_int : kitB "tuple" "int" = some false := by decide +kernel
theorem kit_tuple_bool : kitB "tuple" "bool" = some false := by decide +kernel
theorem kit_tuple_str : kitB "tuple" "str" = some false := by decide +kernel
theorem kit_tuple_tuple : kitB "tuple" "tuple" = some true := by decide +kernel
theorem kit_tuple_list : kitB "tuple" "list" = some false := by decide +kernel
theorem kit_tuple_dict : kitB "tuple" "dict" = some false := by decide +kernel
theorem kit_list_int : kitB "list" "int" = some false := by decide +kernel
theorem kit_list_bool : kitB "list" "bool" = some false := by decide +kernel
theorem kit_list_str : kitB "list" "str" = some false := by decide +kernel
theorem kit_list_tuple : kitB "list" "tuple" = some false := by decide +kernel
theorem kit_list_list : kitB "list" "list" = some true := by decide +kernel
theorem kit_list_dict : kitB "list" "dict" = some false := by decide +kernel
theorem kit_NoneType_int : kitB "NoneType" "int" = some false := by decide +kernel
theorem kit_NoneType_bool : kitB "NoneType" "bool" = some false := by decide +kernel
theorem kit_NoneType_str : kitB "NoneType" "str" = some false := by decide +kernel
theorem kit_NoneType_tuple : kitB "NoneType" "tuple" = some false := by decide +kernel
theorem kit_NoneType_list : kitB "NoneType" "list" = some false := by decide +kernel
theorem kit_NoneType_dict : kitB "NoneType" "dict" = some false := by decide +kernel
theorem kit_dict_int : kitB "dict" "int" = some false := by decide +kernel
theorem kit_dict_bool : kitB "dict" "bool" = some false := by decide +kernel
theorem kit_dict_str : kitB "dict" "str" = some false := by decide +kernel
theorem kit_dict_tuple : kitB "dict" "tuple" = some false := by decide +kernel
theorem kit_dict_list : kitB "dict" "list" = some false := by decide +kernel
theorem kit_dict_dict : kitB "dict" "dict" = some true := by decide +kernel
section
variable {w : Bool} {c : Cn} {env : Sy} {os : List SO} {te tl : TE} {d : PyData}
theorem ex_isi {T : String} {b : Bool} (h : EvX true c env os te d) (hb : kitB (tyN d) T = some b) : EvX w c env os (tCB (rIsi c.K) (tCons te (tCons (tC (.ty T)) tNil))) (.bool b) := fun ad σ H ok Q q =>
  h ad σ H ok _ fun v H2 e r => ⟨v, .ty T, .type (tyN d), .type T, b, rfl, .ty T, tyx_of r, kit_ty hb, q _ H2 e (.bl b)⟩
def maxL : List Int → Int
  | [] => 0
  | x :: xs => xs.foldl max x
def minL : List Int → Int
  | [] => 0
  | x :: xs => xs.foldl min x
theorem foldl_max : ∀ (xs : List Int) (a : Int), a ≤ xs.foldl max a ∧ (∀ y ∈ xs, y ≤ xs.foldl max a) ∧ (xs.foldl max a = a ∨ xs.foldl max a ∈ xs)
  | [], a => ⟨Int.le_refl _, (fun _ h => absurd h (List.not_mem_nil)), Or.inl rfl⟩
  | x :: xs, a => by
    obtain ⟨h1, h2, h3⟩ := foldl_max xs (max a x)
    refine ⟨by simp only [List.foldl_cons]; omega, fun y hy => ?_, ?_⟩
    · simp only [List.foldl_cons]
      rcases List.mem_cons.mp hy with z | z
      · subst z; omega
      · exact h2 y z
    · simp only [List.foldl_cons]
      rcases h3 with z | z
      · rw [z]
        by_cases hx : a ≤ x
        · exact Or.inr (by rw [show max a x = x by omega]; exact List.mem_cons_self ..)
        · exact Or.inl (by omega)
      · exact Or.inr (List.mem_cons_of_mem _ z)
theorem foldl_min : ∀ (xs : List Int) (a : Int), xs.foldl min a ≤ a ∧ (∀ y ∈ xs, xs.foldl min a ≤ y) ∧ (xs.foldl min a = a ∨ xs.foldl min a ∈ xs)
  | [], a => ⟨Int.le_refl _, (fun _ h => absurd h (List.not_mem_nil)), Or.inl rfl⟩
  | x :: xs, a => by
    obtain ⟨h1, h2, h3⟩ := foldl_min xs (min a x)
    refine ⟨by simp only [List.foldl_cons]; omega, fun y hy => ?_, ?_⟩
    · simp only [List.foldl_cons]
      rcases List.mem_cons.mp hy with z | z
      · subst z; omega
      · exact h2 y z
    · simp only [List.foldl_cons]
      rcases h3 with z | z
      · rw [z]
        by_cases hx : x ≤ a
        · exact Or.inr (by rw [show min a x = x by omega]; exact List.mem_cons_self ..)
        · exact Or.inl (by omega)
      · exact Or.inr (List.mem_cons_of_mem _ z)
theorem maxL_spec : ∀ {xs : List Int}, xs ≠ [] → maxL xs ∈ xs ∧ ∀ y ∈ xs, y ≤ maxL xs
  | [], h => absurd rfl h
  | x :: xs, _ => by
    obtain ⟨h1, h2, h3⟩ := foldl_max xs x
    refine ⟨?_, fun y hy => ?_⟩
    · show xs.foldl max x ∈ _
      rcases h3 with z | z
      · rw [z]; exact List.mem_cons_self ..
      · exact List.mem_cons_of_mem _ z
    · rcases List.mem_cons.mp hy with z | z
      · subst z; exact h1
      · exact h2 y z
theorem minL_spec : ∀ {xs : List Int}, xs ≠ [] → minL xs ∈ xs ∧ ∀ y ∈ xs, minL xs ≤ y
  | [], h => absurd rfl h
  | x :: xs, _ => by
    obtain ⟨h1, h2, h3⟩ := foldl_min xs x
    refine ⟨?_, fun y hy => ?_⟩
    · show xs.foldl min x ∈ _
      rcases h3 with z | z
      · rw [z]; exact List.mem_cons_self ..
      · exact List.mem_cons_of_mem _ z
    · rcases List.mem_cons.mp hy with z | z
      · subst z; exact h1
      · exact h2 y z
theorem ints_of {K : PySem.W.Frag} {N : Addr → Prop} {ad : Nat → Addr} {n : Nat} {H : Hp} : ∀ {vs : List V} {ns : List Int}, Paired (SvOk K N ad n H) vs ((ns.map PyData.int).map SV.i) → vs = ns.map V.int
  | _, [], h => by cases h; rfl
  | _, x :: ns, h => by
    cases h with
    | cons a b => rw [ints_of b, dn_int (show Dn _ _ _ _ _ from a)]; rfl
theorem ex_maxL {ns : List Int} (h : EvI c env os tl ((ns.map PyData.int).map SV.i)) (hn : ns ≠ []) : EvX w c env os (tCB (rMax c.K) (tCons tl tNil)) (.int (maxL ns)) := fun ad σ H ok Q q =>
  h ad σ H ok _ fun p vs H2 e s r => by
    rw [ints_of r] at s
    refine ⟨p, ns, rfl, s, List.length_pos_iff.mpr hn, fun m hm hu => ?_⟩
    obtain ⟨h1, h2⟩ := maxL_spec hn
    have : m = maxL ns := Int.le_antisymm (h2 m hm) (hu _ h1)
    rw [this]
    exact q _ H2 e (.int _)
theorem ex_minL {ns : List Int} (h : EvI c env os tl ((ns.map PyData.int).map SV.i)) (hn : ns ≠ []) : EvX w c env os (tCB (rMin c.K) (tCons tl tNil)) (.int (minL ns)) := fun ad σ H ok Q q =>
  h ad σ H ok _ fun p vs H2 e s r => by
    rw [ints_of r] at s
    refine ⟨p, ns, rfl, s, List.length_pos_iff.mpr hn, fun m hm hu => ?_⟩
    obtain ⟨h1, h2⟩ := minL_spec hn
    have : m = minL ns := Int.le_antisymm (hu _ h1) (h2 m hm)
    rw [this]
    exact q _ H2 e (.int _)
theorem ex_sum {ns : List Int} (h : EvI c env os tl ((ns.map PyData.int).map SV.i)) : EvX w c env os (tCB (rSum c.K) (tCons tl tNil)) (.int ns.sum) := fun ad σ H ok Q q =>
  h ad σ H ok _ fun p vs H2 e s r => by
    rw [ints_of r] at s
    exact ⟨p, ns, rfl, s, q _ H2 e (.int _)⟩
theorem bls_of {K : PySem.W.Frag} {N : Addr → Prop} {ad : Nat → Addr} {n : Nat} {H : Hp} : ∀ {vs : List V} {ns : List Bool}, Paired (SvOk K N ad n H) vs ((ns.map PyData.bool).map SV.i) → vs = ns.map V.bl
  | _, [], h => by cases h; rfl
  | _, x :: ns, h => by
    cases h with
    | cons a b => rw [bls_of b, dn_bool (show Dn _ _ _ _ _ from a)]; rfl
theorem ex_any {ns : List Bool} (h : EvI c env os tl ((ns.map PyData.bool).map SV.i)) : EvX w c env os (tCB (rAny c.K) (tCons tl tNil)) (.bool (ns.any id)) := fun ad σ H ok Q q =>
  h ad σ H ok _ fun p vs H2 e s r => by
    rw [bls_of r] at s
    exact ⟨p, ns, rfl, s, q _ H2 e (.bl _)⟩
theorem ex_all {ns : List Bool} (h : EvI c env os tl ((ns.map PyData.bool).map SV.i)) : EvX w c env os (tCB (rAll c.K) (tCons tl tNil)) (.bool (ns.all id)) := fun ad σ H ok Q q =>
  h ad σ H ok _ fun p vs H2 e s r => by
    rw [bls_of r] at s
    exact ⟨p, ns, rfl, s, q _ H2 e (.bl _)⟩
end

/-! ### a def's start -/
theorem dnall_len {K : PySem.W.Frag} {N : Addr → Prop} {H : Hp} {vs : List V} {ds : List PyData} (h : DnAll K N H vs ds) : vs.length = ds.length := h.length
def env0 (n : Nat) (ds : List PyData) : Sy := ds.map (fun d => some (SV.i d)) ++ List.replicate (n - ds.length) none
theorem ok_start {K : PySem.W.Frag} {H : Hp} {N : Addr → Prop} {vs : List V} {ds : List PyData} {Nm : List Str} (hN : ∀ a, N a → H a ≠ none) (h : DnAll K N H vs ds) : Ok ⟨K, H, N, fun _ => False, [], 0⟩ (fun _ => 0) (env0 Nm.length ds) [] (L2.start Nm vs) H where
  len := by unfold L2.start env0; simp [h.length]
  ex := fun a o e _ => e
  n0 := hN
  val := fun i s e => by
    unfold env0 at e
    by_cases hi : i < ds.length
    · rw [List.getElem?_append_left (by simpa using hi), List.getElem?_map] at e
      cases hd : ds[i]? with
      | none => rw [hd] at e; cases e
      | some d =>
        rw [hd] at e
        cases e
        obtain ⟨v, h1, h2⟩ := h.get hd
        refine ⟨v, ?_, h2.sub fun a z => z.elim id fun ⟨k, ⟨o, y, _⟩, _⟩ => by simp at y⟩
        unfold L2.start
        rw [List.getElem?_append_left (by rw [List.length_map, h.length]; exact hi), List.getElem?_map, h1]
        rfl
    · rw [List.getElem?_append_right (by simpa using hi)] at e
      rw [List.getElem?_replicate] at e
      split at e <;> cases e
  obj := fun k o e _ => by simp at e
  inj := fun k j ⟨o, e, _⟩ => by simp at e
  nn := fun k ⟨o, e, _⟩ => by simp at e
  frm := fun p hp => by cases hp
  low := Nat.le_refl _
theorem spD_len {K : PySem.W.Frag} {R : List PyData → PyData → Prop} {n : Nat} (hR : ∀ ds d, R ds d → ds.length = n) : ∀ vs H Q E, spD K R vs H Q E → vs.length = n := fun vs H Q E ⟨N, ds, d, _, h, r, _⟩ => h.length.trans (hR ds d r)
theorem spF_len {K : PySem.W.Frag} {R : List PyData → List PyData → Prop} {n : Nat} (hR : ∀ ds d, R ds d → ds.length = n) : ∀ vs H Q E, spF K R vs H Q E → vs.length = n := fun vs H Q E ⟨N, ds, d, _, h, r, _⟩ => h.length.trans (hR ds d r)
/-- the ends of a def's body -/
abbrev De (Q : VK) : Ends := { nx := fun _ H' => Q .non H', rt := Q }
theorem run_spD {K : PySem.W.Frag} {R : List PyData → PyData → Prop} {vs : List V} {H : Hp} {Q : VK} {E : XK} {Nm : List Str} {t : TS} (h : spD K R vs H Q E)
    (g : ∀ N ds d, R ds d → Ret ⟨K, H, N, fun _ => False, [], 0⟩ d (De Q) → Go ⟨K, H, N, fun _ => False, [], 0⟩ (env0 Nm.length ds) [] t (De Q)) : t (De Q) (L2.start Nm vs) H := by
  obtain ⟨N, ds, d, hN, hv, hR, hq⟩ := h
  exact g N ds d hR (fun v H2 e r => hq v H2 (fun a o z => e a o z fun y => y) r) _ _ _ (ok_start hN hv)
theorem run_spF {K : PySem.W.Frag} {R : List PyData → List PyData → Prop} {vs : List V} {H : Hp} {Q : VK} {E : XK} {Nm : List Str} {t : TS} (h : spF K R vs H Q E)
    (g : ∀ N ds rs, R ds rs → RetF ⟨K, H, N, fun _ => False, [], 0⟩ rs (De Q) → Go ⟨K, H, N, fun _ => False, [], 0⟩ (env0 Nm.length ds) [] t (De Q)) : t (De Q) (L2.start Nm vs) H := by
  obtain ⟨N, ds, d, hN, hv, hR, hq⟩ := h
  exact g N ds d hR (fun p H2 ws hp e h1 h2 => hq p H2 ws hp (fun a o z => e a o z fun y => y) h1 h2) _ _ _ (ok_start hN hv)
end DL

set_option Elab.async false
set_option linter.all false
set_option maxRecDepth 100000
set_option maxHeartbeats 2000000
/-! The data layer: a def that is called, the law's end. -/
namespace DL
open PySem PySem.Spec PyProof.Rows L2

/-- the module's name x stands for a def that keeps the promise sp -/
def Cal (P : Program) (w : World) (K : PySem.W.Frag) (mg : Str → Option Value) (base : Heap) (k : Nat) (x : Str) (ps : List Str) (sp : Sp) : Prop :=
  ∃ f fd, FnOk P w K mg base CX0 k f fd ps sp ∧ Binds K fd ps [] ∧ mg x = some (.ref f) ∧ PySem.W.keepIn K (.ref f) = true
theorem pe_cal {X : Cx} {k j : Nat} {ps : List Str} {sp : Sp} {x : Str} {p pos : Pos} {e : Expr} {es : List Expr} {t : TA} (h : Cal X.prog X.w X.K X.mg X.base k x ps sp) (hr : Room j X.A) (hj : k ≤ j) (hg : Gl X x) (hx : Passes CX0 X E0) (ha : PA X (e :: es) t)
    (hdb : (x == ("__debug__" : Str)) = false := by decide) (he : starEach (e :: es) X.env = (false, eval e X.env) :: starEach es X.env := by rfl) (hpl : (backTo pos (starEach es X.env)).any (·.1) = false := by rfl) :
    PE X (.Call (.Name x p) (e :: es) [] pos) (tCall sp [] E0 t) := by
  obtain ⟨f, fd, G, b, g, kp⟩ := h
  exact pe_call G (hr.mono hj) hg g kp b .nil hx ha hdb he hpl
section
variable {P : Program} {w : World} {K : PySem.W.Frag} {mg : Str → Option Value} {base : Heap}
abbrev FnP (K : PySem.W.Frag) (x : Str) (st : Stmt) (f : Addr) (fd : FuncData) : Prop := FunD K x x (defArgs st) (defBody st) (defScope st) [] [] f fd
theorem cal_mk {x : Str} {st : Stmt} {f : Addr} {fd : FuncData} {N ps : List Str} {k : Nat} {sp : Sp} (F : FnP K x st f fd) (S : FnScope N ps (defScope st)) (g : mg x = some (.ref f)) (len : ∀ vs H Q E, sp vs H Q E → vs.length = ps.length)
    (hb : ∀ (kV doc pm : Value) (an : Option Addr) (cdv ct : Value) (us : List Value), us.length = ps.length → bindArgs (PySem.W.fnOf x x (defArgs st) (defBody st) (defScope st) .none kV doc pm an cdv ct) ⟨us, []⟩ = pure (ps.zip us))
    (hbody : ∀ (cdv : Value) (A : Around) (outer : List Env) (s : Shared) (H : Hp) (vs : List V) (Q : VK) (E : XK), Room k (A.deeper (envOfC x (defScope st) s.heap.objs.size f cdv)) → sp vs H Q E →
      ∃ t, PSs (cxOf CX0 P w K mg base N x (defScope st) f cdv A outer s H E).nox (defBody st) t ∧ t (De Q) (L2.start N vs) H) : Cal P w K mg base (k + 1) x ps sp :=
  ⟨f, fd, F.ok S len fun cdv A outer s H vs Q E hr h => let ⟨t, a, b⟩ := hbody cdv A outer s H vs Q E hr h; ⟨t, a.nox, b⟩, F.bindsN hb, g, F.kp⟩
end
/-- the script's promise -/
def RLaw : List PyData → PyData → Prop := fun ds d => ∃ ns : List Int, ns.length ≤ 63 ∧ ds = [.list (ns.map PyData.int)] ∧ d = .bool true
theorem RLaw_len : ∀ ds d, RLaw ds d → ds.length = 1 := fun ds d ⟨ns, _, e, _⟩ => by rw [e]; rfl
theorem ints_dn {K : PySem.W.Frag} {N : Addr → Prop} {H : Hp} : ∀ ns : List Int, DnAll K N H (ns.map V.int) (ns.map PyData.int)
  | [] => .nil
  | n :: ns => .cons (.int n) (ints_dn ns)
theorem law_sp {K : PySem.W.Frag} {H : Hp} {a : Addr} {ns : List Int} (hl : ns.length ≤ 63) (h : SqL K H a (ns.map V.int)) : spD K RLaw [.ref a] H (fun v _ => v = .bl true) fun _ _ _ => False := by
  refine ⟨fun _ => False, [.list (ns.map PyData.int)], .bool true, fun _ z => z.elim, .cons ?_ .nil, ⟨ns, hl, rfl, rfl⟩, fun v H' _ r => dn_bool r⟩
  rcases h with h | h
  · exact .lst h id (ints_dn ns)
  · exact .lstK h (ints_dn ns)
abbrev dD (x : Str) (s : Stmt) : He.DefD := ⟨(x, none), x, x, defArgs s, defBody s, defScope s, [], []⟩
theorem fnok_mk {P : Program} {w : World} {K : PySem.W.Frag} {mg : Str → Option Value} {base : Heap} {x : Str} {st : Stmt} {f : Addr} {fd : FuncData} {N ps : List Str} {k : Nat} {sp : Sp} (F : FnP K x st f fd) (S : FnScope N ps (defScope st)) (len : ∀ vs H Q E, sp vs H Q E → vs.length = ps.length)
    (hbody : ∀ (cdv : Value) (A : Around) (outer : List Env) (s : Shared) (H : Hp) (vs : List V) (Q : VK) (E : XK), Room k (A.deeper (envOfC x (defScope st) s.heap.objs.size f cdv)) → sp vs H Q E →
      ∃ t, PSs (cxOf CX0 P w K mg base N x (defScope st) f cdv A outer s H E).nox (defBody st) t ∧ t (De Q) (L2.start N vs) H) : FnOk P w K mg base CX0 (k + 1) f fd ps sp :=
  F.ok S len fun cdv A outer s H vs Q E hr h => let ⟨t, a, b⟩ := hbody cdv A outer s H vs Q E hr h; ⟨t, a.nox, b⟩
/-- THE END: of a law whose top holds defs and constants -/
theorem walk_end {l : PySem.W.OpenLaw} {k : Nat} {q : Program} {loose : List Str} {XP : (Str → Option Value) → Heap → Prop} {d : DefRec} {fa : List He.Fa} {fn : List He.DefD} {ts : List He.Tab} {tf : List He.Defn} {ex : PySem.W.Frag → Bool} {st : Stmt}
    (hn : l.most = some 63) (hdf : d.params.defaults = []) (hr : Room k callerA) (hd : d.name = ("law" : Str))
    (hba : ∀ (kV doc pm : Value) (an : Option Addr) (cdv ct : Value) (us : List Value), us.length = 1 → bindArgs (PySem.W.fnOf "law" "law" (defArgs st) (defBody st) (defScope st) .none kV doc pm an cdv ct) ⟨us, []⟩ = pure ((["script"] : List Str).zip us))
    (F : ∀ (w : World) (mg : Str → Option Value) (K : PySem.W.Frag) (h : Heap), K.In h → h.Ns mainGlobals mg → He.SaysX fa fn ts tf ex w h K → mg "law" = some (.ref (He.ga K "law")) ∧ ∃ fd, FnP K "law" st (He.ga K "law") fd ∧
      ∀ base : Heap, K.In base → base.Ns mainGlobals mg → FnOk l.prog w K mg base CX0 k (He.ga K "law") fd ["script"] (spD K RLaw)) :
    PySem.W.WalkO q loose XP (He.hookX 4 fa fn ts tf ex).says l.row.toRowW d [] (fun f vs => PySem.call f vs) := by
  refine L2.walk_ofE (k := k) (x := "script") (CX := CX0) hn (by decide) hdf hr ?_ (fun _ _ _ _ z => z)
  intro w mg fa' h Y G hmg
  obtain ⟨K, KX, c⟩ := Y
  rw [hd] at hmg
  obtain ⟨h0, fd, h1, h2⟩ := F w mg K h KX G c
  rw [h0] at hmg
  cases hmg
  exact ⟨K, fd, spD K RLaw, KX, fun s u => FunD.bindsA (ps := ["script"]) h1 hba s [u] rfl, fun H a ns hl _ hS => law_sp hl hS, h2⟩

/-! ### tables -/
theorem getD_map_int (ns : List Int) (j : Nat) (h : j < ns.length) : ((ns.map PyData.int).map SV.i)[j]? = some (.i (.int (ns.getD j 0))) := by
  rw [List.getElem?_map, List.getElem?_map, List.getD_eq_getElem?_getD, List.getElem?_eq_getElem h]
  rfl
theorem ex_tab {w : Bool} {c : Cn} {env : Sy} {os : List SO} {ta tb : TE} {ns : List Int} {i : Int} (h : EvI c env os ta ((ns.map PyData.int).map SV.i)) (hi : EvX true c env os tb (.int i)) (h0 : 0 ≤ i) (h1 : i < (ns.length : Int)) :
    EvX w c env os (tOp (rIxL c.K) ta tb) (.int (ns.getD i.toNat 0)) := by
  refine ex_ixL h hi ?_
  have e : i = ((i.toNat : Nat) : Int) := by omega
  rw [e]
  exact atI_nat (by rw [Int.toNat_natCast]; exact getD_map_int ns _ (by omega))
theorem itD_map {α : Type} {f : α → PyData} {xs : List α} (i : Nat) (x : α) (h : xs[i]? = some x) : itD (xs.map f) i = .i (f x) := itD_at (by rw [List.getElem?_map, h]; rfl)
/-- a for over a list of data -/
theorem gs_forD {α : Type} {c : Cn} {env : Sy} {os : List SO} {g : TG} {tb u : TS} {D : Ends} {tl : TE} {xs : List α} {f : α → PyData} (E : List α → Sy) (O : List α → List SO) (h : EvX false c env os tl (.list (xs.map f)))
    (h0 : ∀ c' : Cn, c'.lo = os.length → ∀ ad σ H, Ok c' ad env os σ H → Ok c' ad (E []) (O []) σ H)
    (hs : ∀ fr, Up c (c.w fr os.length) → ∀ pre x post, xs = pre ++ x :: post → ∃ env' js, Tg (c.w fr os.length) (E pre) (O pre) g (.i (f x)) env' js ∧ Go (c.w fr os.length) env' (O pre) tb { D with nx := OkE (c.w fr os.length) (E (pre ++ [x])) (O (pre ++ [x])), ct := OkE (c.w fr os.length) (E (pre ++ [x])) (O (pre ++ [x])), bk := u D })
    (hd : Go c (E xs) (O xs) u D) : Go c env os (tSeq (tFor (iList c.K tl) g tb) u) D :=
  gs_forL (e := fun x => .i (f x)) E O (ew_list h) (by simp) itD_map h0 (fun _ _ _ => True.intro) hs hd
/-- .. over a tuple -/
theorem gs_forTu {α : Type} {c : Cn} {env : Sy} {os : List SO} {g : TG} {tb u : TS} {D : Ends} {tl : TE} {xs : List α} {f : α → PyData} (E : List α → Sy) (O : List α → List SO) (h : EvX false c env os tl (.tuple (xs.map f)))
    (h0 : ∀ c' : Cn, c'.lo = os.length → ∀ ad σ H, Ok c' ad env os σ H → Ok c' ad (E []) (O []) σ H)
    (hs : ∀ fr, Up c (c.w fr os.length) → ∀ pre x post, xs = pre ++ x :: post → ∃ env' js, Tg (c.w fr os.length) (E pre) (O pre) g (.i (f x)) env' js ∧ Go (c.w fr os.length) env' (O pre) tb { D with nx := OkE (c.w fr os.length) (E (pre ++ [x])) (O (pre ++ [x])), ct := OkE (c.w fr os.length) (E (pre ++ [x])) (O (pre ++ [x])), bk := u D })
    (hd : Go c (E xs) (O xs) u D) : Go c env os (tSeq (tFor (iTup c.K tl) g tb) u) D :=
  gs_forL (e := fun x => .i (f x)) E O (ew_tup h) (by simp) itD_map h0 (fun _ _ _ => True.intro) hs hd
/-- a join behind an if -/
theorem gs_ifJ {c : Cn} {env : Sy} {os : List SO} {tt : TT} {t v u : TS} {D : Ends} {b : Bool} (env' : Sy) (os' : List SO) (h : EvT c env os tt b) (k : Go c env' os' u D) (h1 : b = true → Go c env' os' u D → Go c env os t { D with nx := u D }) (h2 : b = false → Go c env' os' u D → Go c env os v { D with nx := u D }) : Go c env os (tSeq (tIfS tt t v) u) D :=
  gs_if h (fun e => h1 e k) fun e => h2 e k
theorem EvF.is {c : Cn} {env : Sy} {os : List SO} {te : TE} {o o' : SO} (h : EvF c env os te o) (e : o = o') : EvF c env os te o' := e ▸ h
/-! ### equal data -/
theorem eqv_T4 (a b c d e f g h : Int) : PyData.eqv (.tuple [.int a, .int b, .int c, .int d]) (.tuple [.int e, .int f, .int g, .int h]) = decide (a = e ∧ b = f ∧ c = g ∧ d = h) := by
  simp [PyData.eqv, PyData.eqvAll, Bool.beq_eq_decide_eq, Bool.decide_and]
theorem eqv_self_T4 (a b c d : Int) : PyData.eqv (.tuple [.int a, .int b, .int c, .int d]) (.tuple [.int a, .int b, .int c, .int d]) = true := by
  rw [eqv_T4]; simp
theorem shaped_T4 (x y w h : Int) : SeqAt.shaped (.tuple [.int x, .int y, .int w, .int h]) = true := by rfl
end DL

set_option Elab.async false
set_option linter.all false
set_option maxRecDepth 100000
set_option maxHeartbeats 2000000
/-! The data layer: lists of rectangles and the like. -/
namespace DL
open PySem PySem.Spec PyProof.Rows L2
open Evl (Ex Ex.refl Ex.trans Ex.new)

/-! ### shapes of data -/
theorem canAll : ∀ {ds : List PyData}, (∀ d ∈ ds, d.canLay0 = true) → PyData.canLayAll0 ds = true
  | [], _ => rfl
  | d :: ds, h => by
    show (d.canLay0 && PyData.canLayAll0 ds) = true
    rw [h d (List.mem_cons_self ..), canAll fun e he => h e (List.mem_cons_of_mem _ he)]
    rfl
theorem depAll {n : Nat} : ∀ {ds : List PyData}, (∀ d ∈ ds, d.depth ≤ n) → PyData.depthAll ds ≤ n
  | [], _ => Nat.zero_le _
  | d :: ds, h => by
    show max d.depth (PyData.depthAll ds) ≤ n
    exact Nat.max_le.mpr ⟨h d (List.mem_cons_self ..), depAll fun e he => h e (List.mem_cons_of_mem _ he)⟩
theorem shaped_list {ds : List PyData} (h : ∀ d ∈ ds, d.canLay0 = true ∧ d.depth ≤ 63) : SeqAt.shaped (.list ds) = true := by
  unfold SeqAt.shaped
  have h1 : (PyData.list ds).canLay0 = true := canAll fun d hd => (h d hd).1
  have h2 : (PyData.list ds).depth ≤ 64 := by
    show PyData.depthAll ds + 1 ≤ 64
    have := depAll (n := 63) fun d hd => (h d hd).2
    omega
  rw [h1, decide_eq_true h2]
  rfl
theorem eqv_self {d : PyData} (h : SeqAt.shaped d = true) : PyData.eqv d d = true := SeqAt.eqv_refl d (SeqAt.canLay_of_shaped h)

/-! ### rectangles -/
abbrev Rc := Int × Int × Int × Int
def dR (r : Rc) : PyData := .tuple [.int r.1, .int r.2.1, .int r.2.2.1, .int r.2.2.2]
abbrev dRs (rs : List Rc) : PyData := .list (rs.map dR)
theorem shaped_dRs (rs : List Rc) : SeqAt.shaped (dRs rs) = true := shaped_list fun d hd => by
  obtain ⟨r, _, rfl⟩ := List.mem_map.mp hd
  exact ⟨rfl, Nat.le_of_ble_eq_true rfl⟩
theorem noLists_dR : ∀ rs : List Rc, noLists (rs.map dR) = true
  | [] => rfl
  | r :: rs => noLists_dR rs

/-! ### slices -/
theorem cutG_from {α : Type} (xs : List α) (k : Nat) : cutG xs (some (k : Int)) none = xs.drop k := by
  unfold cutG
  rw [HT.sIx_nat, HT.sIx_none]
  by_cases h : k ≤ xs.length
  · rw [Nat.min_eq_left h]
    exact List.take_of_length_le (by rw [List.length_drop]; exact Nat.le_refl _)
  · rw [Nat.min_eq_right (by omega), Nat.sub_self, List.take_zero, List.drop_of_length_le (by omega)]
theorem cutG_to {α : Type} (xs : List α) (k : Nat) : cutG xs none (some (k : Int)) = xs.take k := by
  unfold cutG
  rw [HT.sIx_nat, HT.sIx_none, List.drop_zero, Nat.sub_zero]
  by_cases h : k ≤ xs.length
  · rw [Nat.min_eq_left h]
  · rw [Nat.min_eq_right (by omega), List.take_length, List.take_of_length_le (by omega)]

/-! ### comprehensions over lists of data -/
section
variable {c : Cn} {env : Sy} {os : List SO} {g : TG} {tt : TT} {te tl ta tb : TE} {w : Bool}
theorem ef_lcD {α : Type} {xs : List α} {e : α → PyData} {vs : List Nat} (p : α → Bool) (f : α → PyData) (h : EvX false c env os tl (.list (xs.map e))) (hz : xs.length ≤ 40000)
    (hs : ∀ fr lo, Up c (c.w fr lo) → ∀ acc x, x ∈ xs → ∃ env' js, (∀ j ∈ js, j ∈ vs) ∧ Tg (c.w fr lo) (wipeE env vs) (os ++ [.lst acc]) g (.i (e x)) env' js ∧ EvT (c.w fr lo) env' (os ++ [.lst acc]) tt (p x) ∧ (p x = true → EvX false (c.w fr lo) env' (os ++ [.lst acc]) te (f x))) :
    EvF c env os (tLc (iList c.K tl) g tt te vs) (.lst (((xs.filter p).map f).map SV.i)) :=
  ef_lc (e := fun x => .i (e x)) p f (ew_list h) (by simp) itD_map (fun _ => True.intro) hz hs
/-- over a range -/
theorem ef_lcR {ta : TA} {n : Int} {vs : List Nat} (p : Nat → Bool) (f : Nat → PyData) (h : EvA true c env os ta [.int n]) (hn : -1000000000000 ≤ n ∧ n ≤ 40000)
    (hs : ∀ fr lo, Up c (c.w fr lo) → ∀ acc (x : Nat), (x : Int) < n → ∃ env' js, (∀ j ∈ js, j ∈ vs) ∧ Tg (c.w fr lo) (wipeE env vs) (os ++ [.lst acc]) g (.i (.int (x : Int))) env' js ∧ EvT (c.w fr lo) env' (os ++ [.lst acc]) tt (p x) ∧ (p x = true → EvX false (c.w fr lo) env' (os ++ [.lst acc]) te (f x))) :
    EvF c env os (tLc (iRng1 ta) g tt te vs) (.lst ((((List.range n.toNat).filter p).map f).map SV.i)) :=
  ef_lc (e := fun (x : Nat) => .i (.int (x : Int))) p f (ew_range1 h (by omega)) (by simp) (fun i x hx => by
    obtain ⟨h1, h2⟩ := List.getElem?_eq_some_iff.mp hx
    rw [List.getElem_range] at h2
    rw [h2]) (fun _ => True.intro) (by simp; omega) fun fr lo up acc x hx => hs fr lo up acc x (by have := List.mem_range.mp hx; omega)
theorem et_yes : EvT c env os tYes true := fun ad σ H ok Q q => q H (Ex.refl H)
/-- an item of a written list of data -/
theorem ex_tabD {ds : List PyData} {i : Int} (h : EvI c env os ta (ds.map SV.i)) (hi : EvX true c env os tb (.int i)) (h0 : 0 ≤ i) (h1 : i < (ds.length : Int)) :
    EvX w c env os (tOp (rIxL c.K) ta tb) (ds.getD i.toNat .none) := by
  refine ex_ixL h hi ?_
  have e : i = ((i.toNat : Nat) : Int) := by omega
  have hj : i.toNat < ds.length := by omega
  rw [e]
  refine atI_nat ?_
  rw [Int.toNat_natCast, List.getElem?_map, List.getD_eq_getElem?_getD, List.getElem?_eq_getElem hj]
  rfl
/-- xs.insert(i, e) -/
theorem gs_ins {u : TS} {D : Ends} {k : Nat} {ss : List SV} {d : PyData} {i : Int} {r : V → List V → Hp → VK → Prop} (hr : r = fun x vs H Q => ∃ (l : Addr) (xs : List V) (i : Int) (y : V), x = .ref l ∧ vs = [.int i, y] ∧ H l = some (.lst xs) ∧ xs.length < sizeLine ∧ 0 ≤ i ∧ i < 2 ^ 63 ∧ Q .non (upd H l (.lst (xs.take i.toNat ++ [y] ++ xs.drop i.toNat))))
    (hl : EvR c env os tl k) (hk : os[k]? = some (.lst ss)) (hi : EvX true c env os ta (.int i)) (h : EvX false c env os te d) (hz : ss.length < 100000) (h0 : 0 ≤ i) (h1 : i < 2 ^ 63)
    (kk : Go c env (os.set k (.lst (ss.take i.toNat ++ [.i d] ++ ss.drop i.toNat))) u D) : Go c env os (tSeq (tDrop (tBM c.K "list" r tl (tCons ta (tCons te tNil)))) u) D := fun ad σ H ok => by
  subst hr
  refine hl.2 ad σ H ok _ fun H1 e1 => ?_
  have ok1 := ok.ext e1
  obtain ⟨_, vs, hvs, pv⟩ := ok1.obj k _ hk rfl
  refine ⟨Or.inl ⟨rfl, vs, SqL.of hvs⟩, hi ad σ H1 ok1 _ fun v2 H2 e2 r2 => h ad σ H2 (ok1.ext e2) _ fun v H3 e3 r3 => ?_⟩
  have ok3 := (ok1.ext e2).ext e3
  have e23 := e2.trans e3
  have hv3 := e23 _ _ hvs
  refine ⟨ad k, vs, i, v, rfl, by rw [dn_int r2], hv3, Nat.lt_of_lt_of_le (by rw [Paired.length pv]; exact hz) (by decide), h0, h1, ?_⟩
  rw [Nw_false] at r3
  have hN : Nof c ad os (ad k) := Or.inr ⟨k, ⟨_, hk, rfl⟩, rfl⟩
  refine kk ad σ _ (ok3.mut hk rfl rfl ⟨_, upd_same, ?_⟩)
  have app : ∀ {l1 : List V} {m1 : List SV} {l2 : List V} {m2 : List SV}, Paired (SvOk c.K (Nof c ad os) ad os.length (upd H3 (ad k) (.lst (vs.take i.toNat ++ [v] ++ vs.drop i.toNat)))) l1 m1 → Paired (SvOk c.K (Nof c ad os) ad os.length (upd H3 (ad k) (.lst (vs.take i.toNat ++ [v] ++ vs.drop i.toNat)))) l2 m2 → Paired (SvOk c.K (Nof c ad os) ad os.length (upd H3 (ad k) (.lst (vs.take i.toNat ++ [v] ++ vs.drop i.toNat)))) (l1 ++ l2) (m1 ++ m2) := by
    intro l1 m1 l2 m2 p q
    induction p with
    | nil => exact q
    | cons r t ih => exact .cons r ih
  have pv3 := Paired.imp pv fun a b z => (z.ext e23).mut hv3 rfl hN (o' := .lst (vs.take i.toNat ++ [v] ++ vs.drop i.toNat))
  exact app (app (Paired.take _ pv3) (.cons (show Dn _ _ _ _ _ from Dn.mut hv3 rfl hN r3) .nil)) (Paired.drop _ pv3)
end
end DL

set_option Elab.async false
set_option linter.all false
set_option maxRecDepth 100000
set_option maxHeartbeats 2000000
/-! The data layer: the rules that name what the module has written, told by a letter. -/
namespace DL
open PySem PySem.Spec PyProof.Rows L2
section
variable {X : Cx} {K : PySem.W.Frag} {pos : Pos}
theorem kIxL (h : X.K = K := by rfl) : IxR X (rIxL K) := by subst h; exact ix_list
theorem kIxT (h : X.K = K := by rfl) : IxR X (rIxT K) := by subst h; exact ix_tup
theorem kSlL (h : X.K = K := by rfl) : SlR X (rSlL K) := by subst h; exact sl_list
theorem kSlT (h : X.K = K := by rfl) : SlR X (rSlT K) := by subst h; exact sl_tup
def rLenK (K : PySem.W.Frag) : List V → Hp → VK → Prop := fun xs H Q => ∃ p ys, xs = [.ref p] ∧ (SqL K H p ys ∨ SqT K H p ys) ∧ Q (.int ys.length) H
theorem kLen (h : X.K = K := by rfl) : CallR X (.builtin "len") (rLenK K) := by subst h; exact call_len_seq
def rListK (K : PySem.W.Frag) : List V → Hp → VK → Prop := fun xs H Q => ∃ p ys, xs = [.ref p] ∧ (SqL K H p ys ∨ SqT K H p ys) ∧ ∀ l, H l = none → Q (.ref l) (upd H l (.lst ys))
theorem kList (h : X.K = K := by rfl) : CallR X (.type "list") (rListK K) := by subst h; exact call_list_of
theorem kSum (hc : X.calm = true) (h : X.K = K := by rfl) : CallR X (.builtin "sum") (rSum K) := by subst h; exact cr_sum hc
theorem kMax (hc : X.calm = true) (h : X.K = K := by rfl) : CallR X (.builtin "max") (rMax K) := by subst h; exact cr_max hc
theorem kMin (hc : X.calm = true) (h : X.K = K := by rfl) : CallR X (.builtin "min") (rMin K) := by subst h; exact cr_min hc
theorem kAny (hc : X.calm = true) (h : X.K = K := by rfl) : CallR X (.builtin "any") (rAny K) := by subst h; exact cr_any hc
theorem kAll (hc : X.calm = true) (h : X.K = K := by rfl) : CallR X (.builtin "all") (rAll K) := by subst h; exact cr_all hc
theorem kIsi (h : X.K = K := by rfl) : CallR X (.builtin "isinstance") (rIsi K) := by subst h; exact call_isi
theorem kEqD (hu : X.A.units + 64 < cLine) (h : X.K = K := by rfl) : OpR X (compareOp .Eq) (rEqD K) := by subst h; exact op_eqD hu
theorem kNeD (hu : X.A.units + 64 < cLine) (h : X.K = K := by rfl) : OpR X (compareOp .NotEq) (rNeD K) := by subst h; exact op_neD hu
theorem kBm {T : String} {r : V → List V → Hp → VK → Prop} {e : Expr} {to : TE} {t : TA} (h : PE X e (tBM X.K T r to t)) (hk : X.K = K := by rfl) : PE X e (tBM K T r to t) := by subst hk; exact h
theorem kTup {es : List Expr} {k : Nat} {t : TGs} {n : Nat} (hc : X.calm = true) (h : PGs X es t)
    (hn : (assignEach es X.env).length = n := by rfl) (hst : (assignEach es X.env).findIdx? (·.1) = none := by rfl) (hk : X.K = K := by rfl) : PG X (.Tuple es k pos) (gTup K n t) := by subst hk; exact pg_tup hc h hn hst
theorem kPiL {tg l : Expr} {tl : TE} (hl : PE X l tl) (hk : X.K = K := by rfl) : PI X tg l (iList K tl) := by subst hk; exact pi_list hl
theorem kPiT {tg l : Expr} {tl : TE} (hl : PE X l tl) (hk : X.K = K := by rfl) : PI X tg l (iTup K tl) := by subst hk; exact pi_tup hl
def tTruK (K : PySem.W.Frag) (ta : TE) : TT := fun σ H Q => ta σ H fun x H' => ∃ k, TruV K x H' k ∧ Q k H'
theorem kTru {a : Expr} {ta : TE} (ha : PE X a ta) (he : ∀ whole, isTrue a X.env whole = (do let v ← whole; standAt a.pos; holding [v] (truthy v))) (hk : X.K = K := by rfl) : PT X a (tTruK K ta) := by subst hk; exact pt_truth ha he
end
section
variable {w : Bool} {c : Cn} {env : Sy} {os : List SO} {te ta tb tl : TE} {d : PyData} {tt tu : TT}
theorem ex_lenK {ss : List SV} (h : EvI c env os te ss) : EvX w c env os (tCB (rLenK c.K) (tCons te tNil)) (.int (ss.length : Int)) := ex_len rfl h
theorem ex_lenTK {ds : List PyData} (h : EvX true c env os te (.tuple ds)) : EvX w c env os (tCB (rLenK c.K) (tCons te tNil)) (.int (ds.length : Int)) := ex_lenT rfl h
theorem ef_listK {ss : List SV} (h : EvI c env os te ss) : EvF c env os (tCB (rListK c.K) (tCons te tNil)) (.lst ss) := ef_list rfl h
theorem et_truK {ss : List SV} (h : EvI c env os te ss) : EvT c env os (tTruK c.K te) (!ss.isEmpty) := et_truL rfl h
end
theorem soLt_data {n : Nat} {ds : List PyData} : SoLt n (.lst (ds.map SV.i)) := fun s hs => by
  obtain ⟨d, _, rfl⟩ := List.mem_map.mp hs
  exact True.intro
theorem filt_all {α : Type} (xs : List α) : xs.filter (fun _ => true) = xs := List.filter_eq_self.mpr fun _ _ => rfl
end DL

set_option Elab.async false
set_option linter.all false
set_option maxRecDepth 100000
set_option maxHeartbeats 2000000
/-! The data layer: lists, sets and dicts of any length are sorted. -/
namespace DL
open PySem PySem.Spec PyProof.Rows L2
open Evl (Ex Ex.refl Ex.trans Ex.new)

theorem vals_each : ∀ {xs : List V} {its : List Value} {ds : List PyData}, Vals xs its → xs.length = ds.length → PySem.W.EachIs (fun v (b : V × PyData) => RelV b.1 v) its (xs.zip ds)
  | _, _, [], .nil, _ => .nil
  | _, _, [], .cons _ _, e => absurd e (by simp)
  | _, _, _ :: _, .nil, e => absurd e (by simp)
  | _, _, _ :: _, .cons r t, e => .cons r (vals_each t (by simpa using e))
theorem each_vals : ∀ {bs : List (V × PyData)} {out : List Value}, PySem.W.EachIs (fun v (b : V × PyData) => RelV b.1 v) out bs → Vals (bs.map Prod.fst) out
  | _, _, .nil => .nil
  | _, _, .cons r t => .cons r (each_vals t)
/-- sorted(xs): data of any kind that has an order -/
def rSortD (K : PySem.W.Frag) : List V → Hp → VK → Prop := fun vs H Q => ∃ (a : Addr) (xs : List V) (ds : List PyData), vs = [V.ref a] ∧ SqL K H a xs ∧ DpAll K H xs ds ∧ PySem.W.AllAlike ds ∧ PySem.W.Sortable ds ∧ (∀ d ∈ ds, d.depth ≤ 8) ∧
  ∀ p : Addr, H p = none → Q (.ref p) (upd H p (.lst (((xs.zip ds).mergeSort (PySem.W.dataLe false Prod.snd)).map Prod.fst)))
theorem dpAll_len {K : PySem.W.Frag} {H : Hp} : ∀ {xs : List V} {ds : List PyData}, DpAll K H xs ds → xs.length = ds.length
  | _, _, .nil => rfl
  | _, _, .cons _ t => congrArg (· + 1) (dpAll_len t)
theorem cr_sortD {X : Cx} (hu : X.A.units + 64 < cLine) : CallR X (.builtin "sorted") (rSortD X.K) := by
  intro pins s σ H vs us Q I r h
  obtain ⟨a, xs, ds, rfl, hs, hd, hal, hk, hdep, q⟩ := h
  obtain ⟨its, rv, hl, hz⟩ := I.list hs
  rw [Vals.ref1 r]
  have el := dpAll_len hd
  have esnd : (xs.zip ds).map Prod.snd = ds := List.map_snd_zip (by omega)
  have hlen : (xs.zip ds).length = xs.length := by rw [List.length_zip]; omega
  refine PySem.W.sorted_data (R := fun v (b : V × PyData) => RelV b.1 v) (bs := xs.zip ds) (enc := Prod.snd) hl.isList (vals_each rv el) ?_ (by rw [esnd]; exact hal) (by rw [esnd]; exact hk) (by rw [hlen]; exact hz) (fun b hb => ?_) fun out ho he => ?_
  · have key : ∀ {xs : List V} {ds : List PyData} {its : List Value}, DpAll X.K H xs ds → Vals xs its → PySem.W.EachIs (fun v (b : V × PyData) => ∃ as, Reads s.heap v b.2 as) its (xs.zip ds) := by
      intro xs
      induction xs with
      | nil => intro ds its h r; cases h; cases r; exact .nil
      | cons x xs ih =>
        intro ds its h r
        cases h with
        | cons h1 h2 =>
          cases r with
          | cons r1 r2 => exact .cons (Dp.reads I _ _ _ h1 r1) (ih h2 r2)
    exact key hd rv
  · have hm : b.2 ∈ ds := by rw [← esnd]; exact List.mem_map.mpr ⟨b, hb, rfl⟩
    have := hdep _ hm
    omega
  · obtain ⟨ep, he'⟩ := PyProof.Rows.sortedAll_at s.heap its out.toArray
    refine ⟨.ref _, upd H (s.heap.objs.size + 1) (.lst (((xs.zip ds).mergeSort (PySem.W.dataLe false Prod.snd)).map Prod.fst)), I.laid (t' := s.toks) (fun _ _ => PyProof.Rows.sortedAll_old) (Nat.le_succ _) ⟨?_, out, ep, each_vals he, he'⟩, rfl, q _ (I.hok.fresh (Nat.le_succ _))⟩
    rw [List.length_map, (List.mergeSort_perm _ _).length_eq, hlen]
    exact hz
theorem kSortD {X : Cx} {K : PySem.W.Frag} (hu : X.A.units + 64 < cLine) (h : X.K = K := by rfl) : CallR X (.builtin "sorted") (rSortD K) := by subst h; exact cr_sortD hu
section
variable {w : Bool} {c : Cn} {env : Sy} {os : List SO} {te ta tb tl : TE} {d : PyData} {tt tu : TT}
mutual
theorem plain_alike : ∀ d : PyData, PySem.W.alike d d = true → d.plain = true
  | .none, _ => rfl
  | .bool _, _ => rfl
  | .int _, _ => rfl
  | .str _, _ => rfl
  | .list xs, h => by
    show PyData.plainAll xs = true
    exact plain_alikes xs (by simpa [PySem.W.alike] using h)
  | .tuple xs, h => by
    show PyData.plainAll xs = true
    exact plain_alikes xs (by simpa [PySem.W.alike] using h)
  | .dict _, h => by simp [PySem.W.alike] at h
theorem plain_alikes : ∀ ds : List PyData, PySem.W.alikeAll ds ds = true → PyData.plainAll ds = true
  | [], _ => rfl
  | d :: ds, h => by
    rw [PySem.W.alikeAll, Bool.and_eq_true] at h
    show (d.plain && PyData.plainAll ds) = true
    rw [plain_alike d h.1, plain_alikes ds h.2]
    rfl
end
theorem plains_of {ds : List PyData} (h : PySem.W.AllAlike ds) : PyData.plainAll ds = true := by
  have all : ∀ es : List PyData, (∀ d ∈ es, d ∈ ds) → PyData.plainAll es = true := by
    intro es
    induction es with
    | nil => intro _; rfl
    | cons d es ih =>
      intro f
      show (d.plain && PyData.plainAll es) = true
      rw [plain_alike d (h d (f d (List.mem_cons_self ..)) d (f d (List.mem_cons_self ..))), ih fun x hx => f x (List.mem_cons_of_mem _ hx)]
      rfl
  exact all ds fun _ hd => hd
theorem dpAll_of {K : PySem.W.Frag} {N : Addr → Prop} {H : Hp} {xs : List V} {ds : List PyData} (hal : PySem.W.AllAlike ds) (h : DnAll K N H xs ds) : DpAll K H xs ds := DnAll.dp _ _ (plains_of hal) h
theorem dn_zip {K : PySem.W.Frag} {N : Addr → Prop} {H : Hp} : ∀ {xs : List V} {ds : List PyData}, DnAll K N H xs ds → ∀ b ∈ xs.zip ds, Dn K N H b.1 b.2
  | _, _, .nil, b, h => absurd h (by simp)
  | _, _, .cons r t, b, h => by
    rw [List.zip_cons_cons] at h
    rcases List.mem_cons.mp h with z | z
    · subst z; exact r
    · exact dn_zip t b z
theorem dn_of_pairs {K : PySem.W.Frag} {N : Addr → Prop} {H : Hp} : ∀ {bs : List (V × PyData)}, (∀ b ∈ bs, Dn K N H b.1 b.2) → DnAll K N H (bs.map Prod.fst) (bs.map Prod.snd)
  | [], _ => .nil
  | b :: bs, h => .cons (h b (List.mem_cons_self ..)) (dn_of_pairs fun x hx => h x (List.mem_cons_of_mem _ hx))
theorem ef_sortD {ds : List PyData} (h : EvI c env os te (ds.map SV.i)) (hal : PySem.W.AllAlike ds) (hk : PySem.W.Sortable ds) (hdep : ∀ d ∈ ds, d.depth ≤ 8) : EvF c env os (tCB (rSortD c.K) (tCons te tNil)) (.lst ((ds.mergeSort (PySem.W.dataLe false id)).map SV.i)) := fun ad σ H ok Q q =>
  h ad σ H ok _ fun p vs H2 e s r => by
    have hd := paired_dn r
    refine ⟨p, vs, ds, rfl, s, dpAll_of hal hd, hal, hk, hdep, fun p2 hp2 => ?_⟩
    have e2 : Ex H (upd H2 p2 (.lst (((vs.zip ds).mergeSort (PySem.W.dataLe false Prod.snd)).map Prod.fst))) := e.trans (Ex.new hp2)
    refine q p2 _ (e.free hp2) e2 ⟨_, upd_same, ?_⟩
    have esnd : (vs.zip ds).map Prod.snd = ds := List.map_snd_zip (by have := hd.length; omega)
    have em : ((vs.zip ds).mergeSort (PySem.W.dataLe false Prod.snd)).map Prod.snd = ds.mergeSort (PySem.W.dataLe false id) := by
      exact (List.map_mergeSort (r := PySem.W.dataLe false Prod.snd) (s := PySem.W.dataLe false id) (f := Prod.snd) (l := vs.zip ds) fun a _ b _ => rfl).trans (by rw [esnd])
    have hz : DnAll c.K (Nof c ad os) H2 (((vs.zip ds).mergeSort (PySem.W.dataLe false Prod.snd)).map Prod.fst) (((vs.zip ds).mergeSort (PySem.W.dataLe false Prod.snd)).map Prod.snd) :=
      dn_of_pairs fun b hb => dn_zip hd b ((List.mergeSort_perm _ _).mem_iff.mp hb)
    rw [em] at hz
    exact dn_paired ((DnAll.add hp2 hz).ext (Ex.new hp2))
end

/-! ### sets of ints, keys of dicts -/
section
variable {prog : Program} {w : World} {A : Around} {E : Value → Shared → Prop} {s : Shared}
theorem set_sort {a : Addr} {S : Int → Bool} {n : Nat} {Q : Value → Shared → Prop} (R : SetR w s.heap a S n) (hh : A.handled = none)
    (hQ : ∀ (s2 : Shared) (p : Addr) (res : List Value) (ep : Nat) (ns : List Int), (∀ b o, s.heap.get? b = some o → s2.heap.get? b = some o) → s2.gens = s.gens → s2.os = s.os → s.heap.objs.size ≤ p →
      s2.heap.get? p = some (seqObj "list" res.toArray ep) → IntsAre res ns → ns.Pairwise (· < ·) → (∀ k, k ∈ ns ↔ S k = true) → ns.length = n → Q (.ref p) s2) :
    wpAny (model prog w) A (call (.builtin "sorted") [.ref a]) Q E s := by
  have ⟨o, es, ep, t, ho, hex, hd, g, nd, hm, hb, hf, hn, hr, hl⟩ := R
  have lim : n ≤ sizeLine := by
    have h1 : es.size < scanBound := hb
    have h2 : scanBound ≤ sizeLine := by decide
    omega
  refine Calls.call_function_entry kind_sorted plain_sorted entry_sorted (args_sorted1 _) ?_
  unfold Builtin.«sorted»
  refine wpAny_bind (m := checkCount "sorted" 1 1 _) (wpAny_pure ?_)
  refine wpAny_bind (collect_set (A := A.in1) hh ⟨o, ho, hex.1, hd⟩ hf hb hr hl fun s1 vs keep sz gs oss pm => ?_)
  have len : vs.length = n := by rw [pm.length_eq, List.length_map, Array.length_toList]; exact hn
  have allI : ∀ v ∈ vs, ∃ i t, v = Value.int i t := fun v hv => by
    obtain ⟨e, he, rfl⟩ := List.mem_map.mp (pm.mem_iff.mp hv)
    obtain ⟨k, tk, h1, _⟩ := g e he
    exact ⟨k, tk, h1⟩
  have hI := SrtO.ints_iv allI
  have keyEq : ∀ e ∈ es.toList, SrtO.iv e.2 = keyOf e := fun e he => by
    obtain ⟨k, tk, h1, _⟩ := g e he
    unfold keyOf SrtO.iv
    rw [h1]
  have pk : (vs.map SrtO.iv).Perm (es.toList.map keyOf) := by
    refine (pm.map SrtO.iv).trans ?_
    rw [List.map_map]
    exact List.Perm.of_eq (List.map_congr_left fun e he => keyEq e he)
  refine wpAny_bind (wpAny_newList ?_ (by rw [len]; exact lim))
  have at0 : (s1.heap.push (seqObj "list" vs.toArray 0)).get? s1.heap.objs.size = some (seqObj "list" vs.toArray 0) := Heap.get?_push_size _ rfl
  refine wpAny_bind (wpAny_holding (wpAny_call_entry slot_list_sort ⟨_, at0, rfl⟩ entry_list_sort
    (SrtO.list_sort_ord SrtO.swo_int at0 (by rw [len]; exact lim) (fun h2 => SrtO.ints_sortable hI h2) fun res h1 h2 => ⟨_, rfl, ?_⟩) (args_list_sort _)))
  obtain ⟨k1, k2, k3⟩ := SrtO.ints_out hI h1 h2
  obtain ⟨ep2, at2⟩ := sortedHeap_at (vs := vs) (out := res.toArray) at0
  have pn := k2.trans pk
  refine wpAny_pure ⟨_, rfl, hQ _ s1.heap.objs.size res ep2 (res.map SrtO.iv) (fun b u e => ?_) gs oss sz at2 k1 (lt_of_le_nodup _ k3 (pn.nodup_iff.mpr nd)) (fun k => by rw [pn.mem_iff, ← hm k]) ?_⟩
  · have q := keep b u e
    have lt := Heap.lt_size q
    show (sortedHeap (s1.heap.push (seqObj "list" vs.toArray 0)) s1.heap.objs.size vs res.toArray).get? b = some u
    rw [sortedHeap_old (Nat.ne_of_lt lt) (by rw [size_push']; exact Nat.lt_succ_of_lt lt)]
    exact Heap.get?_push_of_some _ q
  · rw [pn.length_eq, List.length_map, Array.length_toList]; exact hn
end

section
variable {X : Cx}
/-- sorted(S), a set of ints -/
def rSortSetA (w : World) : List V → Hp → VK → Prop := fun vs H Q => ∃ (a : Addr) (S : Int → Bool) (n : Nat), vs = [V.ref a] ∧ H a = some (SetO w a S n) ∧
  ∀ (ns : List Int) (p : Addr), ns.Pairwise (· < ·) → (∀ k : Int, k ∈ ns ↔ S k = true) → ns.length = n → H p = none → Q (.ref p) (upd H p (.lst (ns.map V.int)))
theorem cr_sortSetA (hc : X.calm = true) : CallR X (.builtin "sorted") (rSortSetA X.w) := by
  intro pins s σ H vs us Q I r h
  obtain ⟨a, S, n, rfl, ha, q⟩ := h
  have R := setO_get I ha
  rw [Vals.ref1 r]
  have ⟨_, _, _, _, _, _, _, _, _, _, hb, _, hn, _, _⟩ := R
  refine set_sort R (I.ok.hd hc) fun s2 p res ep ns keep gs oss sz at2 k1 k2 k3 k4 => ?_
  have len : (ns.map V.int).length ≤ sizeLine := by
    rw [List.length_map, k4]
    exact Nat.le_trans (Nat.le_of_eq hn.symm) (Nat.le_trans (Nat.le_of_lt hb) (by decide))
  have free : H p = none := I.hok.fresh sz
  have J : Inv X pins σ (upd H p (.lst (ns.map V.int))) { s with heap := s2.heap, gens := s2.gens, drawn := s2.drawn, toks := s2.toks } :=
    I.call (ch := []) (Un.laid keep sz free) (I.hok.laid keep sz ⟨len, res, ep, vals_of_ints k1, at2⟩) (by rw [gs]; exact I.bare) (fun _ z => nomatch z)
  have same : s2 = { s with heap := s2.heap, gens := s2.gens, drawn := s2.drawn, toks := s2.toks } := by
    cases s2; cases s; cases oss; rfl
  rw [same]
  exact ⟨.ref p, _, J, rfl, q ns p k2 k3 k4 free⟩
/-- sorted(d), the keys ints -/
def rSortDKA : List V → Hp → VK → Prop := fun vs H Q => ∃ (a : Addr) (kvs : List (Key × V)) (ks : List Int), vs = [V.ref a] ∧ H a = some (.dK kvs) ∧ kvs.map (·.1) = ks.map Sum.inl ∧
  ∀ (ns : List Int) (p : Addr), ns.Perm ks → ns.Pairwise (· ≤ ·) → H p = none → Q (.ref p) (upd H p (.lst (ns.map V.int)))
theorem cr_sortDKA (hc : X.calm = true) : CallR X (.builtin "sorted") rSortDKA := by
  intro pins s σ H vs us Q I r h
  obtain ⟨a, kvs, ks, rfl, ha, hks, q⟩ := h
  rw [Vals.ref1 r]
  obtain ⟨z, lo, ws, rel, dd⟩ := dk_rd I.hok (Or.inl ha)
  obtain ⟨ep, hat⟩ := dd.dictAt
  have hkeys : ws.map (·.1) = ks.map Sum.inl := rel.keys.symm.trans hks
  have len : ws.length = ks.length := by simpa using congrArg List.length hkeys
  have lim : ws.length ≤ sizeLine := by
    have h1 := congrArg List.length rel.keys
    simp at h1
    omega
  refine Calls.call_function_entry kind_sorted plain_sorted entry_sorted (args_sorted1 _) ?_
  unfold Builtin.«sorted»
  refine wpAny_bind (m := checkCount "sorted" 1 1 _) (wpAny_pure ?_)
  refine wpAny_bind (PySem.W.kdu_collect (A := X.A.in1) (PySem.W.kdl_dict (knd := mixKind X.prog X.w) (kvs := ws) (ep := ep) lo) (I.ok.hd hc) hat lim fun h1 tk acc keep hacc => ?_)
  have lenA : acc.toList.length = ks.length := by rw [Array.length_toList, hacc.1, len]
  have isI : ∀ (j : Nat) (y : Int), ks[j]? = some y → ∃ t, acc.toList[j]? = some (Value.int y t) := fun j y ey => by
    have hj : j < acc.size := by
      have := (List.getElem?_eq_some_iff.mp ey).1
      rw [← Array.length_toList]; omega
    obtain ⟨k, x, e1, e2⟩ := hacc.2 j acc[j] (Array.getElem?_eq_getElem hj)
    have e3 : (ws.map (·.1))[j]? = some k := by rw [List.getElem?_map, e1]; rfl
    rw [hkeys, List.getElem?_map, ey] at e3
    have e4 : Sum.inl y = k := Option.some.inj e3
    subst e4
    rcases keyIs_shape (show keyIs (Sum.inl y) acc[j] = true from e2) with ⟨i, t, ek, ev⟩ | ⟨u, t, ek, ev⟩
    · cases ek
      exact ⟨t, by rw [Array.getElem?_toList, Array.getElem?_eq_getElem hj, ev]⟩
    · cases ek
  have hI : IntsAre acc.toList ks := by
    have go : ∀ (l : List Value) (m : List Int), l.length = m.length → (∀ (j : Nat) (y : Int), m[j]? = some y → ∃ t, l[j]? = some (Value.int y t)) → IntsAre l m := by
      intro l
      induction l with
      | nil => intro m e _; cases m with
        | nil => exact .nil
        | cons _ _ => simp at e
      | cons v l ih => intro m e f; cases m with
        | nil => simp at e
        | cons y m =>
          obtain ⟨t, ht⟩ := f 0 y rfl
          have ev : v = Value.int y t := by simpa using ht
          subst ev
          exact .cons y t (ih m (by simpa using e) fun j z hz => f (j + 1) z (by simpa using hz))
    exact go _ _ lenA isI
  have I1 : Inv X pins σ H { s with heap := h1, toks := tk } := I.kept keep
  have limA : acc.toList.length ≤ sizeLine := by rw [lenA, ← len]; exact lim
  refine wpAny_bind (wpAny_newList ?_ limA)
  have at0 : (h1.push (seqObj "list" acc.toList.toArray 0)).get? h1.objs.size = some (seqObj "list" acc.toList.toArray 0) := Heap.get?_push_size _ rfl
  show wpAny _ _ _ _ _ { s with heap := h1.push (seqObj "list" acc.toList.toArray 0), toks := tk }
  refine wpAny_bind (wpAny_holding (wpAny_call_entry slot_list_sort ⟨_, at0, rfl⟩ entry_list_sort
    (SrtO.list_sort_ord (s := { s with heap := h1.push (seqObj "list" acc.toList.toArray 0), toks := tk }) SrtO.swo_int at0 limA (fun h2 => SrtO.ints_sortable hI h2) fun res g1 g2 => ⟨_, rfl, ?_⟩) (args_list_sort _)))
  obtain ⟨k1, k2, k3⟩ := SrtO.ints_out hI g1 g2
  obtain ⟨ep2, at2⟩ := sortedHeap_at (vs := acc.toList) (out := res.toArray) at0
  have lenR : ((res.map SrtO.iv).map V.int).length ≤ sizeLine := by
    rw [List.length_map, k2.length_eq, ← len]
    exact lim
  refine wpAny_pure ⟨_, rfl, .ref h1.objs.size, upd H h1.objs.size (.lst ((res.map SrtO.iv).map V.int)), I1.laid (t' := tk) (fun b u e => ?_) (Nat.le_refl _)
    (show ObjOk X.prog X.w _ _ _ (.lst ((res.map SrtO.iv).map V.int)) from ⟨lenR, res, ep2, vals_of_ints k1, at2⟩), rfl, q _ _ k2 k3 (I1.hok.fresh (Nat.le_refl _))⟩
  have lt : b < h1.objs.size := Heap.lt_size e
  rw [sortedHeap_old (Nat.ne_of_lt lt) (by rw [size_push']; exact Nat.lt_succ_of_lt lt)]
  exact Heap.get?_push_of_some _ e
end
end DL

set_option Elab.async false
set_option linter.all false
set_option maxRecDepth 100000
set_option maxHeartbeats 4000000
/-! Comprehensions of two clauses into a set of ints: each clause's loop by one lemma. -/
namespace DL
open PySem PySem.Spec PyProof.Rows L2
open PpSet (eval_SetComp newSet_ok codeAny_compStart_set)

/-- one turn of a clause: what goes on behind the tests, told by what comes after it -/
def turnT (tg i : Expr) (ifs : List Expr) (env : Env) (it : Value) (bodyK : Sem Fin → Sem Fin) (nxt : Sem Fin) : Sem Fin := do
  standAt i.pos
  match ← pyNext it with
  | none => pure (.done .next)
  | some v =>
    letOwnedTupleGo tg it v
    assign tg env v
    let mut ok := true
    for c in ifs do
      if ok then ok ← isTrue c env (eval c env)
    if ok then bodyK nxt else nxt
abbrev two (elt t0 i0 t1 i1 : Expr) (f0 f1 : List Expr) (scope : Scope) (pos : Pos) : Expr := .SetComp elt [⟨t0, i0, f0, 0⟩, ⟨t1, i1, f1, 0⟩] scope pos
def nestK (e i1 : Expr) (acc : Value) (env : Env) (nxt : Sem Fin) : Sem Fin := do
  let x ← eval i1 env
  standAt i1.pos
  let x ← foldedSetIterable i1 env x
  let _ ← runOwn (.compStart e 1 (← holding [x] (pyIter x)) acc env) env
  nxt
def emitK (elt : Expr) (acc : Value) (env : Env) (nxt : Sem Fin) : Sem Fin := do
  (do let v ← eval elt env; standAt elt.pos; let _ ← call (.builtin "set.add") [acc, v])
  nxt
theorem turn_outer (elt t0 i0 t1 i1 : Expr) (f0 f1 : List Expr) (scope : Scope) (pos : Pos) (it acc : Value) (env : Env) :
    compTurn (two elt t0 i0 t1 i1 f0 f1 scope pos) 0 it acc env = turnT t0 i0 f0 env it (nestK (two elt t0 i0 t1 i1 f0 f1 scope pos) i1 acc env) (again (.compLoop (two elt t0 i0 t1 i1 f0 f1 scope pos) 0 it acc env)) := by rfl
theorem turn_inner (elt t0 i0 t1 i1 : Expr) (f0 f1 : List Expr) (scope : Scope) (pos : Pos) (it acc : Value) (env : Env) :
    compTurn (two elt t0 i0 t1 i1 f0 f1 scope pos) 1 it acc env = turnT t1 i1 f1 env it (emitK elt acc env) (again (.compLoop (two elt t0 i0 t1 i1 f0 f1 scope pos) 1 it acc env)) := by rfl

/-- σ' knows what σ knows -/
def Kn (σ σ' : L2.St) : Prop := σ.length = σ'.length ∧ ∀ (j : Nat) v, σ[j]? = some (some v) → σ'[j]? = some (some v)
section
variable {Y : Cx}
theorem clause_run {elt t0 i0 t1 i1 : Expr} {f0 f1 : List Expr} {scope : Scope} {pos : Pos} {tg i : Expr} {ifs : List Expr} {lv : Nat} {acc : Value} {bodyK : Sem Fin → Sem Fin} {J : It} {fp : List Addr} {it : Addr} {tn : Nat → Heap → Prop} {g : TG} {tt : TT} {pins : List (Addr × Obj)} {σ : L2.St} {vs : List Nat} {H : Hp} {s : Shared} {R : Result → Shared → Prop} {W : Nat → Nat → Hp → Prop} {m0 : Nat} {BK : L2.St → Hp → (Hp → Prop) → Prop}
    (hc : Y.calm = true) (hxe : Y.xe = fun _ _ => False) (hden : compTurn (two elt t0 i0 t1 i1 f0 f1 scope pos) lv (.ref it) acc Y.env = turnT tg i ifs Y.env (.ref it) bodyK (again (.compLoop (two elt t0 i0 t1 i1 f0 f1 scope pos) lv (.ref it) acc Y.env)))
    (T : Turn Y.prog Y.w Y.K tg J fp it tn) (pg : PG Y tg g) (pt : PTs Y ifs tt) (I : Inv Y pins (wipe σ vs) H s) (st : tn 0 s.heap) (f : ∀ b ∈ fp, FpOk Y pins H b) (w0 : W 0 m0 H)
    (step : ∀ k m H, W k m H → (J.stop k H ∧ ∀ s', Inv Y pins (wipe σ vs) H s' → R (.ok .next) s') ∨ (J.go k H ∧ ∃ Nx : Hp → Prop, (∀ H', Nx H' → ∃ m', m' < m ∧ W (k + 1) m' H') ∧ ∀ x H', J.yld k H x H' → g x (wipe σ vs) H' fun σ2 H2 => wipe σ2 vs = wipe σ vs ∧ tt σ2 H2 fun b H3 => if b = true then BK σ2 H3 Nx else Nx H3))
    (body : ∀ ps σ2 H3 s2 Nx, Inv Y ps σ2 H3 s2 → wipe σ2 vs = wipe σ vs → BK σ2 H3 Nx → ∀ (nxt : Sem Fin) (Q : Fin → Shared → Prop) (E : Value → Shared → Prop),
      (∀ σ9 H9 s9, Inv Y ps σ9 H9 s9 → Kn (wipe σ vs) σ9 → Nx H9 → wpAny (model Y.prog Y.w) Y.A nxt Q E s9) → wpAny (model Y.prog Y.w) Y.A (bodyK nxt) Q E s2) :
    codeAny (model Y.prog Y.w) Y.A (.compLoop (two elt t0 i0 t1 i1 f0 f1 scope pos) lv (.ref it) acc Y.env) R s := by
  have fpOk : ∀ {H' : Hp}, (∀ b ∈ fp, H' b = none) → ∀ b ∈ fp, FpOk Y pins H' b := fun hn b hb => ⟨hn b hb, (f b hb).2⟩
  refine codeAny_loop rfl (fun n s' => ∃ k H', Inv Y pins (wipe σ vs) H' s' ∧ tn k s'.heap ∧ (∀ b ∈ fp, H' b = none) ∧ W k n H') (fun n s' hI => ?_) m0 ⟨0, H, I, st, fun b hb => (f b hb).1, w0⟩
  obtain ⟨k, H', I', st', n', w'⟩ := hI
  show wpAny _ Y.A ((compTurn (two elt t0 i0 t1 i1 f0 f1 scope pos) lv (.ref it) acc Y.env).onRaise (fun x => do noteFrame x Y.env; theTreesLotGoes x)) _ _ s'
  refine wpAny_noted ?_
  rw [hden]
  unfold turnT
  refine wpAny_bind (wpAny_standAt (wpAny_bind ?_))
  rcases step k n H' w' with ⟨stop, fin⟩ | ⟨go, Nx, hNx, hs⟩
  · refine thnF (T.done Y rfl rfl rfl hc k pins s' _ H' (fun _ _ => False) I' (fpOk n') st' stop) fun r s1 ⟨hr, I1⟩ => ?_
    subst hr
    exact wpAny_pure (fin s1 I1)
  · refine thnF (T.item Y rfl rfl rfl hc k pins s' _ H' (fun _ _ => False) I' (fpOk n') st' go) fun r s1 ⟨u, hr, h1⟩ => ?_
    subst hr
    refine wpAny_bind (thnF h1 fun _ s2 ⟨x, H2, I2, r2, y2, st2, n2⟩ => ?_)
    have J2 := I2.pinned (fpOk n2) (T.obj _ _ st2)
    have a1 := pg.run _ s2 _ H2 x u _ J2 r2 (hs x H2 y2)
    rw [hxe] at a1
    refine wpAny_bind (thnF a1 fun _ s3 ⟨σ3, H3, I3, hw, q3⟩ => ?_)
    have a2 := pt.run _ s3 σ3 H3 _ I3 q3
    rw [hxe] at a2
    refine wpAny_bind (thnF a2 fun b s4 ⟨H4, I4, q4⟩ => ?_)
    have kn : Kn (wipe σ vs) σ3 := ⟨by rw [← hw, wipe_length], fun j v e => by rw [← hw] at e; exact (wipe_some e).1⟩
    have done : ∀ σ9 H9 s9, Inv Y (pins ++ pinsAt fp s2.heap) σ9 H9 s9 → Kn (wipe σ vs) σ9 → Nx H9 → ∃ m, m < n ∧ ∃ k H', Inv Y pins (wipe σ vs) H' s9 ∧ tn k s9.heap ∧ (∀ b ∈ fp, H' b = none) ∧ W k m H' := fun σ9 H9 s9 I9 k9 nx => by
      obtain ⟨m', hm, w9⟩ := hNx H9 nx
      have pin : ∀ b ∈ fp, ∀ o, s2.heap.get? b = some o → s9.heap.get? b = some o ∧ H9 b = none := fun b hb o e =>
        let z := I9.pin (b, o) (List.mem_append_right _ (List.mem_append_right _ (mem_pinsAt hb e)))
        ⟨z.1, z.2.1⟩
      refine ⟨m', hm, k + 1, H9, I9.unpinned.weak k9.1 k9.2, T.keep _ _ _ st2 fun b hb o e => (pin b hb o e).1, fun b hb => ?_, w9⟩
      obtain ⟨o, e, _⟩ := T.obj _ _ st2 b hb
      exact (pin b hb o e).2
    cases b with
    | false => exact wpAny_pure ⟨rfl, done σ3 H4 s4 I4 kn q4⟩
    | true => exact body _ σ3 H4 s4 Nx I4 hw q4 _ _ _ fun σ9 H9 s9 I9 k9 nx => wpAny_pure ⟨rfl, done σ9 H9 s9 I9 k9 nx⟩
/-- an int into the set at D -/
theorem addI_ok {pins : List (Addr × Obj)} {σ : L2.St} {H : Hp} {s : Shared} {E : Value → Shared → Prop} {D : Addr} {S : Int → Bool} {n : Nat} {y : Int} {v : Value} {Q : Value → Shared → Prop} (I : Inv Y pins σ H s) (hD : H D = some (SetO Y.w D S n)) (room : n + 1 < scanBound) (r : RelV (.int y) v)
    (h : ∀ s', Inv Y pins σ (upd H D (SetO Y.w D (fun j => S j || decide (j = y)) (if S y = true then n else n + 1))) s' → Q .none s') : wpAny (model Y.prog Y.w) Y.A (call (.builtin "set.add") [.ref D, v]) Q E s := by
  obtain ⟨tk, rfl⟩ := r
  refine setR_add (setO_get I hD) room fun h' sb new => ?_
  have he : ∃ u, h'.get? D = some u := by
    have ⟨o, _, _, _, ho, _⟩ := new
    exact ⟨o, ho⟩
  exact h _ (I.write (e := D) (t' := s.toks + 1) (by rw [hD]; trivial) (.inl rfl) (fun b u hb hu => (sb.2 b hb).trans hu) he (setO_new new))
end

/-- {elt for t0 in i0 if .. for t1 in i1 if ..}: the second clause's loop, from the first one's turn -/
def tNest (w : World) (D : Addr) (wi1 : TI) (g1 : TG) (tt1 : TT) (te : TE) (vs1 : List Nat) (σ : L2.St) (H : Hp) (Nx : Hp → Prop) : Prop := wi1 σ H fun J H4 => ∃ W : Nat → Nat → Hp → Prop, (∃ m, W 0 m H4) ∧ ∀ k m H, W k m H →
  (J.stop k H ∧ Nx H) ∨ (J.go k H ∧ ∃ Nx1 : Hp → Prop, (∀ H', Nx1 H' → ∃ m', m' < m ∧ W (k + 1) m' H') ∧ ∀ x H', J.yld k H x H' → g1 x (wipe σ vs1) H' fun σ3 H5 => wipe σ3 vs1 = wipe σ vs1 ∧ tt1 σ3 H5 fun b H6 =>
    if b = true then te σ3 H6 fun y H7 => ∃ (z : Int) (S : Int → Bool) (n : Nat), y = .int z ∧ H7 D = some (SetO w D S n) ∧ n + 1 < scanBound ∧ Nx1 (upd H7 D (SetO w D (fun j => S j || decide (j = z)) (if S z = true then n else n + 1))) else Nx1 H6)
def tSc2 (w : World) (wi : TI) (g : TG) (tt : TT) (wi1 : TI) (g1 : TG) (tt1 : TT) (te : TE) (vs vs1 : List Nat) : TE := fun σ H Q => wi σ H fun J H1 => ∀ D, H1 D = none → ∃ W : Nat → Nat → Hp → Prop, (∃ m, W 0 m (upd H1 D (SetO w D (fun _ => false) 0))) ∧ ∀ k m H, W k m H →
  (J.stop k H ∧ Q (.ref D) H) ∨ (J.go k H ∧ ∃ Nx : Hp → Prop, (∀ H', Nx H' → ∃ m', m' < m ∧ W (k + 1) m' H') ∧ ∀ x H', J.yld k H x H' → g x (wipe σ vs) H' fun σ2 H2 => wipe σ2 vs = wipe σ vs ∧ tt σ2 H2 fun b H3 =>
    if b = true then tNest w D wi1 g1 tt1 te vs1 σ2 H3 Nx else Nx H3)
/-- the start of the second clause -/
theorem start_inner {prog : Program} {w : World} {A : Around} {R : Result → Shared → Prop} {s : Shared} {elt t0 i0 t1 i1 : Expr} {f0 f1 : List Expr} {scope : Scope} {pos : Pos} {it acc : Value} {env : Env}
    (h0 : codeAny (model prog w) A (.compLoop (two elt t0 i0 t1 i1 f0 f1 scope pos) 1 it acc env) R s)
    (h : ∀ E : Value → Shared → Prop, wpAny (model prog w) A (pyIter it) (fun it2 s2 => codeAny (model prog w) A (.compLoop (two elt t0 i0 t1 i1 f0 f1 scope pos) 1 it2 acc env) R s2) E s) :
    codeAny (model prog w) A (.compStart (two elt t0 i0 t1 i1 f0 f1 scope pos) 1 it acc env) R s := by
  refine codeAny_of_tree ?_
  show wpAny _ _ ((compStart (two elt t0 i0 t1 i1 f0 f1 scope pos) 1 it acc env).onRaise (fun x => do noteFrame x env; standAt theWindowsPlace)) _ _ s
  refine wpAny_notedAt ?_
  unfold compStart
  show wpAny _ _ (ask >>= _) _ _ s
  refine wpAny_bind (wpAny_askSetting (wpAny_ite ?_))
  split
  · first
      | exact wpAny_pure ⟨rfl, h0⟩
      | exact wpAny_bind (wpAny_pure (wpAny_pure ⟨rfl, h0⟩))
  · refine wpAny_bind (wpAny_rule ?_)
    first
      | exact wpAny_bind (wpAny_standAt (wpAny_bind (wpAny_mono (h _) (fun it2 s2 q => wpAny_pure ⟨rfl, q⟩) fun _ _ x => x)))
      | (show wpAny _ _ (standAt i1.pos >>= _) _ _ s
         exact wpAny_bind (wpAny_standAt (wpAny_bind (wpAny_mono (h _) (fun it2 s2 q => wpAny_pure ⟨rfl, q⟩) fun _ _ x => x))))
section
variable {Y : Cx}
/-- the second clause, from evaluating its source to what comes after -/
theorem nest_run {elt t0 i0 t1 i1 : Expr} {f0 f1 : List Expr} {scope : Scope} {pos : Pos} {D : Addr} {wi1 : TI} {g1 : TG} {tt1 : TT} {te : TE} {vs vs1 : List Nat} {pins : List (Addr × Obj)} {σ σ2 : L2.St} {H : Hp} {s : Shared} {Nx : Hp → Prop}
    (hc : Y.calm = true) (hxe : Y.xe = fun _ _ => False) (pi : PI Y t1 i1 wi1) (pg : PG Y t1 g1) (pt : PTs Y f1 tt1) (pe : PE Y elt te) (hs : ∀ x, foldedSetIterable i1 Y.env x = pure x) (hv : ∀ j ∈ vs1, j ∈ vs)
    (I : Inv Y pins σ2 H s) (hw : wipe σ2 vs = wipe σ vs) (h : tNest Y.w D wi1 g1 tt1 te vs1 σ2 H Nx) (nxt : Sem Fin) (Q : Fin → Shared → Prop) (E : Value → Shared → Prop)
    (k : ∀ σ9 H9 s9, Inv Y pins σ9 H9 s9 → Kn (wipe σ vs) σ9 → Nx H9 → wpAny (model Y.prog Y.w) Y.A nxt Q E s9) :
    wpAny (model Y.prog Y.w) Y.A (nestK (two elt t0 i0 t1 i1 f0 f1 scope pos) i1 (.ref D) Y.env nxt) Q E s := by
  unfold nestK
  have a1 := pi.run pins s σ2 H _ I h
  rw [hxe] at a1
  refine wpAny_bind (thnF a1 fun x s1 h1 => wpAny_bind (wpAny_standAt (wpAny_bind (wpAny_of_eq (hs x) (wpAny_bind (wpAny_holding (thnF h1 fun itv s2 h2 => ?_)))))))
  obtain ⟨it, fp, tn, J, H2, e, I2, T, st, f, W, ⟨m0, w0⟩, step⟩ := h2
  subst e
  refine wpAny_bind (wpAny_runOwn ?_)
  rw [Around.mark_none]
  have kn : Kn (wipe σ vs) (wipe σ2 vs1) := ⟨by rw [← hw, wipe_length, wipe_length], fun j v e => by
    rw [← hw] at e
    obtain ⟨e1, e2⟩ := wipe_some e
    rw [wipe_out fun z => e2 (hv j z)]
    exact e1⟩
  have loop : codeAny (model Y.prog Y.w) Y.A (.compLoop (two elt t0 i0 t1 i1 f0 f1 scope pos) 1 (.ref it) (.ref D) Y.env) (fun r s9 => match r with
      | .ok _ => wpAny (model Y.prog Y.w) Y.A nxt Q E s9
      | .error _ => False) s2 := by
    refine clause_run (vs := vs1) (BK := fun σ3 H6 Nx1 => te σ3 H6 fun y H7 => ∃ (z : Int) (S : Int → Bool) (n : Nat), y = .int z ∧ H7 D = some (SetO Y.w D S n) ∧ n + 1 < scanBound ∧ Nx1 (upd H7 D (SetO Y.w D (fun j => S j || decide (j = z)) (if S z = true then n else n + 1))))
      hc hxe (turn_inner elt t0 i0 t1 i1 f0 f1 scope pos (.ref it) (.ref D) Y.env) T pg pt (I2.weak (wipe_length _ _) fun j v e => (wipe_some e).1) st f w0 (fun k0 m H' w' => ?_) fun ps σ3 H3 s3 Nx1 I3 hw3 q3 nxt2 Q2 E2 k2 => ?_
    · rcases step k0 m H' w' with ⟨a, b⟩ | z
      · exact Or.inl ⟨a, fun s9 I9 => k _ _ _ I9 kn b⟩
      · exact Or.inr z
    · unfold emitK
      have a2 := pe.run ps s3 σ3 H3 _ I3 q3
      rw [hxe] at a2
      refine wpAny_bind (wpAny_bind (thnF a2 fun v s4 h4 => wpAny_bind (wpAny_standAt (wpAny_bind ?_))))
      obtain ⟨y, H4, I4, r4, z, S, n, ey, hD, room, nx⟩ := h4
      subst ey
      refine addI_ok I4 hD room r4 fun s5 I5 => wpAny_pure (k2 _ _ _ I5 ⟨by rw [← hw3, wipe_length], fun j v e => by rw [← hw3] at e; exact (wipe_some e).1⟩ nx)
  refine codeAny_mono (start_inner loop fun E' => T.self Y.A 0 _ _ _ st loop) fun r s9 hr => ?_
  cases r with
  | ok fl => exact hr
  | error e => exact hr.elim
end

section
variable {X : Cx}
abbrev Blk (X : Cx) (scope : Scope) (P : Cx → Prop) : Prop := ∀ (s : Shared) (H : Hp) (C : Addr) (cl : List (PySem.Str × Addr)) (fp : List Addr), P (X.blk s H scope (compEnvC scope cl C X.env) fp)
/-- the block, from where its set is laid -/
theorem outer_run {elt t0 i0 t1 i1 : Expr} {f0 f1 : List Expr} {scope : Scope} {pos : Pos} {own : List (PySem.Str × Nat)} {wi1 : TI} {g g1 : TG} {tt tt1 : TT} {te : TE} {vs1 : List Nat} {J : It} {fp : List Addr} {it D : Addr} {tn : Nat → Heap → Prop} {pins : List (Addr × Obj)} {σ : L2.St} {H : Hp} {s : Shared} {Q : VK} {Qf : Value → Shared → Prop} {W : Nat → Nat → Hp → Prop} {m0 : Nat}
    (hc : X.calm = true) (hN : X.N.Nodup) (ok : BlkOk X.N X.env.scope scope own) (I : Inv X pins σ H s) (f : ∀ b ∈ fp, FpOk X pins H b ∧ b < s.heap.objs.size) (T : Turn X.prog X.w X.K t0 J fp it tn) (st : tn 0 s.heap)
    (hg : Blk X scope fun Y => PG Y t0 g) (ht : Blk X scope fun Y => PTs Y f0 tt) (hi1 : Blk X scope fun Y => PI Y t1 i1 wi1) (hg1 : Blk X scope fun Y => PG Y t1 g1) (ht1 : Blk X scope fun Y => PTs Y f1 tt1) (he : Blk X scope fun Y => PE Y elt te)
    (hv : ∀ j ∈ vs1, j ∈ own.map (·.2)) (hs1 : ∀ env x, foldedSetIterable i1 env x = pure x) (w0 : W 0 m0 H)
    (step : ∀ k m H, W k m H → (J.stop k H ∧ Q (.ref D) H) ∨ (J.go k H ∧ ∃ Nx : Hp → Prop, (∀ H', Nx H' → ∃ m', m' < m ∧ W (k + 1) m' H') ∧ ∀ x H', J.yld k H x H' → g x (wipe σ (own.map (·.2))) H' fun σ2 H2 => wipe σ2 (own.map (·.2)) = wipe σ (own.map (·.2)) ∧ tt σ2 H2 fun b H3 =>
      if b = true then tNest X.w D wi1 g1 tt1 te vs1 σ2 H3 Nx else Nx H3))
    (back : ∀ s' m H', Inv X pins σ H' s' → Q (.ref D) H' → s'.heap.Ns s.heap.objs.size m → FpOk X pins H' s.heap.objs.size → compPost (model X.prog X.w) X.A X.xe none Qf (.ref D) s.heap.objs.size (.ok .next) s') :
    codeAny (model X.prog X.w) X.A (.compStart (two elt t0 i0 t1 i1 f0 f1 scope pos) 0 (.ref it) (.ref D) (compEnvC scope (cellsFrom (s.heap.objs.size + 1) scope.names (cloFrom X.env.cells scope.names [])) s.heap.objs.size X.env))
      (compPost (model X.prog X.w) X.A X.xe none Qf (.ref D) s.heap.objs.size) { s with heap := pushCells (s.heap.push { cls := .type "dict", data := .dict #[] }) scope.names } := by
  have I4 := block_start I ok hN f
  have pg := hg s H s.heap.objs.size (cellsFrom (s.heap.objs.size + 1) scope.names (cloFrom X.env.cells scope.names [])) fp
  have pt := ht s H s.heap.objs.size (cellsFrom (s.heap.objs.size + 1) scope.names (cloFrom X.env.cells scope.names [])) fp
  have pi := hi1 s H s.heap.objs.size (cellsFrom (s.heap.objs.size + 1) scope.names (cloFrom X.env.cells scope.names [])) fp
  have pg1 := hg1 s H s.heap.objs.size (cellsFrom (s.heap.objs.size + 1) scope.names (cloFrom X.env.cells scope.names [])) fp
  have pt1 := ht1 s H s.heap.objs.size (cellsFrom (s.heap.objs.size + 1) scope.names (cloFrom X.env.cells scope.names [])) fp
  have pe := he s H s.heap.objs.size (cellsFrom (s.heap.objs.size + 1) scope.names (cloFrom X.env.cells scope.names [])) fp
  have loc : (compEnvC scope (cellsFrom (s.heap.objs.size + 1) scope.names (cloFrom X.env.cells scope.names [])) s.heap.objs.size X.env).locals = s.heap.objs.size := rfl
  generalize compEnvC scope (cellsFrom (s.heap.objs.size + 1) scope.names (cloFrom X.env.cells scope.names [])) s.heap.objs.size X.env = ce at I4 pg pt pi pg1 pt1 pe loc ⊢
  have st4 : tn 0 ({ s with heap := pushCells (s.heap.push { cls := .type "dict", data := .dict #[] }) scope.names } : Shared).heap := T.keep _ _ _ st fun b _ o e => pushCells_keeps _ _ _ _ (Heap.get?_push_of_some _ e)
  have loop : codeAny (model X.prog X.w) X.A (.compLoop (two elt t0 i0 t1 i1 f0 f1 scope pos) 0 (.ref it) (.ref D) ce) (compPost (model X.prog X.w) X.A X.xe none Qf (.ref D) s.heap.objs.size) { s with heap := pushCells (s.heap.push { cls := .type "dict", data := .dict #[] }) scope.names } := by
    refine clause_run (Y := X.blk s H scope ce fp) (pins := []) (vs := own.map (·.2)) (BK := fun σ2 H3 Nx => tNest X.w D wi1 g1 tt1 te vs1 σ2 H3 Nx) hc rfl (turn_outer elt t0 i0 t1 i1 f0 f1 scope pos (.ref it) (.ref D) ce) T pg pt I4 st4 (fun b hb => ?_) w0 (fun k m H' w' => ?_) fun ps σ2 H3 s2 Nx I2 hw q nxt Q2 E2 k2 => ?_
    · exact ⟨(f b hb).1.1, (I4.ok.exf b hb).1, I4.ok.exfs b hb, .inl hb, fun x c e => (I4.ok.exf b hb).2 x c e, fun p hp => absurd (show p ∈ ([] : List (Addr × Obj)) ++ [] from hp) (by simp)⟩
    · rcases step k m H' w' with ⟨a, b⟩ | z
      · refine Or.inl ⟨a, fun s9 I9 => ?_⟩
        have I10 : Inv X pins σ H' s9 := I.call' (ch := fp) I9.os I9.base I9.hok I9.bare fun b hb => ⟨(f b hb).1.2.2.2.1, (f b hb).1.2.1, (f b hb).1.2.2.2.2.1, (f b hb).1.2.2.2.2.2⟩
        have free : H' s.heap.objs.size = none := by
          have z : H' ce.locals = none := I9.free
          rw [loc] at z
          exact z
        obtain ⟨m9, hn, _⟩ := I9.loc
        have hn : s9.heap.Ns ce.locals m9 := hn
        rw [loc] at hn
        exact back s9 m9 H' I10 b hn (I.fpOk (Nat.le_refl _) free)
      · exact Or.inr z
    · exact nest_run (Y := X.blk s H scope ce fp) hc rfl pi pg1 pt1 pe (hs1 ce) hv I2 hw q nxt Q2 E2 k2
  exact codeAny_compStart_set loop (T.self X.A 0 _ _ _ st4 loop)
theorem pe_sc2 {elt t0 i0 t1 i1 : Expr} {f0 f1 : List Expr} {scope : Scope} {pos : Pos} {own : List (PySem.Str × Nat)} {wi wi1 : TI} {g g1 : TG} {tt tt1 : TT} {te : TE} {vs1 : List Nat} (hc : X.calm = true) (hN : X.N.Nodup) (hi : PI X t0 i0 wi) (ok : BlkOk X.N X.env.scope scope own)
    (hg : Blk X scope fun Y => PG Y t0 g) (ht : Blk X scope fun Y => PTs Y f0 tt) (hi1 : Blk X scope fun Y => PI Y t1 i1 wi1) (hg1 : Blk X scope fun Y => PG Y t1 g1) (ht1 : Blk X scope fun Y => PTs Y f1 tt1) (he : Blk X scope fun Y => PE Y elt te)
    (hv : ∀ j ∈ vs1, j ∈ own.map (·.2) := by decide) (hs : ∀ x, foldedSetIterable i0 X.env x = pure x := by intro _; rfl) (hs1 : ∀ env x, foldedSetIterable i1 env x = pure x := by intro _ _; rfl) :
    PE X (.SetComp elt [⟨t0, i0, f0, 0⟩, ⟨t1, i1, f1, 0⟩] scope pos) (tSc2 X.w wi g tt wi1 g1 tt1 te (own.map (·.2)) vs1) := by
  refine ⟨fun pins s σ H Q I h => ?_⟩
  rw [eval_SetComp]
  have cells : ∀ y ∈ scope.names, y.2 = .free → ∃ c, X.env.cells.lookup y.1 = some c := fun y hy e => by
    rcases ok.free y hy e with k | k
    · exact I.ok.has _ (.inl k)
    · exact I.ok.has _ (.inr k)
  refine wpAny_comprehension_free (use := none) rfl hs (closure_ok cells) ok.kind (fun y hy e => by rw [ok.uniq y hy, e])
    (thn (hi.run pins s σ H _ I h) fun xv s1 h1 => thn h1 fun itv s2 h2 => ?_)
  obtain ⟨it, fp, tn, J, H2, e, I2, T, st2, f2, q⟩ := h2
  subst e
  refine newSet_ok (newEnv_comp ?_)
  have free : H2 s2.heap.objs.size = none := I2.hok.fresh (Nat.le_refl _)
  obtain ⟨W, ⟨m0, w0⟩, step⟩ := q s2.heap.objs.size free
  have keep : ∀ b o, s2.heap.get? b = some o → (s2.heap.push { cls := .type "set", dict := none, data := .set #[] 0 (.fresh 0 0 (!X.w.params.followText "set-order")) }).get? b = some o := fun b o e => Heap.get?_push_of_some _ e
  have I3 : Inv X pins σ (upd H2 s2.heap.objs.size (SetO X.w s2.heap.objs.size (fun _ => false) 0)) { s2 with heap := s2.heap.push { cls := .type "set", dict := none, data := .set #[] 0 (.fresh 0 0 (!X.w.params.followText "set-order")) } } :=
    I2.laid (t' := s2.toks) keep (Nat.le_refl _) (setO_new (setR_fresh X.w))
  refine outer_run (s := { s2 with heap := s2.heap.push { cls := .type "set", dict := none, data := .set #[] 0 (.fresh 0 0 (!X.w.params.followText "set-order")) } }) hc hN ok I3 (fun b hb => ?_) T (T.keep _ _ _ st2 fun b _ o e => keep b o e) hg ht hi1 hg1 ht1 he hv hs1 w0 step fun s' m H' I' q' hn fo => ⟨m, hn, fun h'' sb => ?_⟩
  · obtain ⟨o, e, _⟩ := T.obj _ _ st2 b hb
    have lt := Heap.lt_size e
    exact ⟨⟨by rw [upd_ne (Nat.ne_of_lt lt)]; exact (f2 b hb).1, (f2 b hb).2⟩, by rw [Heap.size_push]; exact Nat.lt_succ_of_lt lt⟩
  · obtain ⟨g0, g1', g2, g3, g4, g5⟩ := fo
    exact ⟨.ref s2.heap.objs.size, H', I'.turned (t' := s'.toks) (fun b o hb e => (sb.2 b hb).trans e) g0 g1' g3 g4 g5, rfl, q'⟩
end
end DL

set_option Elab.async false
set_option linter.all false
set_option maxRecDepth 100000
set_option maxHeartbeats 2000000
/-! The data layer: dicts. -/
namespace DL
open PySem PySem.Spec PyProof.Rows L2
open Evl (Ex Ex.refl Ex.trans Ex.new)

/-! ### tables -/
section
variable {κ β γ : Type} [DecidableEq κ]
def getA : List (κ × β) → κ → Option β
  | [], _ => none
  | p :: r, k => if p.1 = k then some p.2 else getA r k
def setA (m : List (κ × β)) (k : κ) (v : β) : List (κ × β) := if (getA m k).isSome then m.map (fun p => (p.1, if p.1 = k then v else p.2)) else m ++ [(k, v)]
theorem getA_cons (p : κ × β) (r : List (κ × β)) (k : κ) : getA (p :: r) k = if p.1 = k then some p.2 else getA r k := rfl
theorem getA_none {m : List (κ × β)} {k : κ} : getA m k = none ↔ ∀ p ∈ m, p.1 ≠ k := by
  induction m with
  | nil => simp [getA]
  | cons p r ih =>
    unfold getA
    by_cases h : p.1 = k
    · rw [if_pos h]
      simp [h]
    · rw [if_neg h, ih]
      simp [h]
theorem getA_app (m n : List (κ × β)) (k : κ) : getA (m ++ n) k = (getA m k).or (getA n k) := by
  induction m with
  | nil => simp [getA]
  | cons p r ih =>
    rw [List.cons_append, getA_cons, getA_cons]
    by_cases h : p.1 = k
    · rw [if_pos h, if_pos h]; rfl
    · rw [if_neg h, if_neg h]; exact ih
theorem getA_map (m : List (κ × β)) (k j : κ) (v : β) : getA (m.map fun p => (p.1, if p.1 = k then v else p.2)) j = (getA m j).map fun x => if j = k then v else x := by
  induction m with
  | nil => rfl
  | cons p r ih =>
    rw [List.map_cons]
    unfold getA
    by_cases h : p.1 = j
    · rw [if_pos h, if_pos h, h]; rfl
    · rw [if_neg h, if_neg h]; exact ih
theorem getA_set (m : List (κ × β)) (k j : κ) (v : β) : getA (setA m k v) j = if j = k then some v else getA m j := by
  unfold setA
  cases hk : getA m k with
  | some x =>
    rw [if_pos (show (some x).isSome = true from rfl), getA_map]
    by_cases h : j = k
    · subst h; rw [hk, if_pos rfl]; simp
    · rw [if_neg h]; cases getA m j <;> simp [h]
  | none =>
    rw [if_neg (by simp), getA_app]
    by_cases h : j = k
    · subst h; rw [hk, if_pos rfl]; simp [getA]
    · rw [if_neg h]
      have : getA [(k, v)] j = none := getA_none.mpr fun p hp => by simp at hp; subst hp; exact fun z => h z.symm
      rw [this]; cases getA m j <;> rfl
theorem setA_keys (m : List (κ × β)) (k : κ) (v : β) : (setA m k v).map (·.1) = if (getA m k).isSome then m.map (·.1) else m.map (·.1) ++ [k] := by
  unfold setA
  split
  · rw [List.map_map]; rfl
  · rw [List.map_append]; rfl
theorem getA_mem {m : List (κ × β)} {k : κ} : (getA m k).isSome = true ↔ k ∈ m.map (·.1) := by
  constructor
  · intro h
    apply Classical.byContradiction
    intro n
    have : getA m k = none := getA_none.mpr fun p hp e => n (List.mem_map.mpr ⟨p, hp, e⟩)
    rw [this] at h; cases h
  · intro h
    cases hg : getA m k with
    | some _ => rfl
    | none =>
      obtain ⟨p, hp, e⟩ := List.mem_map.mp h
      exact absurd e (getA_none.mp hg p hp)
theorem setA_nodup {m : List (κ × β)} (k : κ) (v : β) (h : (m.map (·.1)).Nodup) : ((setA m k v).map (·.1)).Nodup := by
  rw [setA_keys]
  split
  · exact h
  · rename_i n
    refine List.nodup_append.mpr ⟨h, by simp, fun a ha b hb => ?_⟩
    simp at hb
    subst hb
    intro z
    subst z
    exact n (getA_mem.mpr ha)
theorem setA_len (m : List (κ × β)) (k : κ) (v : β) : (setA m k v).length ≤ m.length + 1 := by
  unfold setA
  split
  · rw [List.length_map]; omega
  · rw [List.length_append]; exact Nat.le_refl _
variable {α : Type} [DecidableEq α]
theorem getA_enc {ek : α → κ} (hi : ∀ a b, ek a = ek b → a = b) {ev : β → γ} (m : List (α × β)) (a : α) : getA (m.map fun p => (ek p.1, ev p.2)) (ek a) = (getA m a).map ev := by
  induction m with
  | nil => rfl
  | cons p r ih =>
    rw [List.map_cons]
    unfold getA
    by_cases h : p.1 = a
    · rw [if_pos h, if_pos (by rw [h])]; rfl
    · rw [if_neg h, if_neg (fun z => h (hi _ _ z))]; exact ih
theorem setA_enc {ek : α → κ} (hi : ∀ a b, ek a = ek b → a = b) {ev : β → γ} (m : List (α × β)) (a : α) (v : β) : setA (m.map fun p => (ek p.1, ev p.2)) (ek a) (ev v) = (setA m a v).map fun p => (ek p.1, ev p.2) := by
  unfold setA
  rw [getA_enc hi, Option.isSome_map]
  split
  · rw [List.map_map, List.map_map]
    refine List.map_congr_left fun p _ => ?_
    show (ek p.1, if ek p.1 = ek a then ev v else ev p.2) = (ek p.1, ev (if p.1 = a then v else p.2))
    by_cases h : p.1 = a
    · rw [if_pos h, if_pos (by rw [h])]
    · rw [if_neg h, if_neg (fun z => h (hi _ _ z))]
  · rw [List.map_append]; rfl
end
section
variable {κ : Type} [DecidableEq κ]
theorem val_get {F : V → SV → Prop} : ∀ {ws : List (κ × V)} {kvs : List (κ × SV)}, Paired (fun p q => p.1 = q.1 ∧ F p.2 q.2) ws kvs → ∀ k, (valV ws k = none ∧ getA kvs k = none) ∨ ∃ v s, valV ws k = some v ∧ getA kvs k = some s ∧ F v s
  | _, _, .nil, k => Or.inl ⟨rfl, rfl⟩
  | _, _, .cons (a := p) (b := q) r t, k => by
    by_cases h : p.1 = k
    · exact Or.inr ⟨p.2, q.2, valV_pos h, by unfold getA; rw [if_pos (r.1 ▸ h)], r.2⟩
    · have h' : ¬ q.1 = k := r.1 ▸ h
      unfold getA
      rw [valV_neg h, if_neg h']
      exact val_get t k
theorem put_set {F : V → SV → Prop} {ws : List (κ × V)} {kvs : List (κ × SV)} {k : κ} {v : V} {s : SV} (p : Paired (fun p q => p.1 = q.1 ∧ F p.2 q.2) ws kvs) (h : F v s) : Paired (fun p q => p.1 = q.1 ∧ F p.2 q.2) (putK ws k v) (setA kvs k s) := by
  unfold putK setA
  have e : (ws.any fun kv => decide (kv.1 = k)) = (getA kvs k).isSome := by
    rw [valV_any]
    rcases val_get p k with ⟨a, b⟩ | ⟨x, y, a, b, _⟩
    · rw [a, b]; rfl
    · rw [a, b]; rfl
  rw [e]
  cases (getA kvs k).isSome with
  | true =>
    rw [if_pos rfl, if_pos rfl]
    clear e
    induction p with
    | nil => exact .nil
    | cons r t ih =>
      rename_i a b l1 l2
      rw [List.map_cons, List.map_cons]
      refine .cons ?_ ih
      by_cases hk : a.1 = k
      · rw [if_pos hk]
        exact ⟨r.1, by show F v (if b.1 = k then s else b.2); rw [if_pos (r.1 ▸ hk)]; exact h⟩
      · rw [if_neg hk]
        exact ⟨r.1, by show F a.2 (if b.1 = k then s else b.2); rw [if_neg (r.1 ▸ hk)]; exact r.2⟩
  | false =>
    rw [if_neg (by decide), if_neg (by decide)]
    exact paired_snoc p ⟨rfl, h⟩
end

/-! ### rules for a dict of the store -/
section
variable {K : PySem.W.Frag} {N : Addr → Prop} {H : Hp}
theorem dn_key {v : V} {k : Key} (h : Dn K N H v (kdat k)) : v = kV k := by cases k <;> cases h <;> rfl
theorem dn_keys : ∀ {ks : List Key} {vs : List V}, DnAll K N H vs (ks.map kdat) → vs = ks.map kV
  | [], _, h => by cases h; rfl
  | k :: ks, _, h => by
    cases h with
    | cons a b => rw [dn_key a, dn_keys b]; rfl
theorem key_dn (k : Key) : Dn K N H (kV k) (kdat k) := by cases k <;> constructor
theorem keys_dn : ∀ ks : List Key, DnAll K N H (ks.map kV) (ks.map kdat)
  | [] => .nil
  | k :: ks => .cons (key_dn k) (keys_dn ks)
theorem fix_dn {ad : Nat → Addr} {n : Nat} {v : V} {ks : List Key} (h : SvOk K N ad n H v (.t (.tup (ks.map kV)))) : Dn K N H v (tdat ks) := by
  obtain ⟨b, rfl, e, _⟩ := h
  exact .tup (SqT.of e) (keys_dn ks)
end
section
variable {w : Bool} {c : Cn} {env env' : Sy} {os : List SO} {te ta tb tl td ty tv tx : TE} {d : PyData} {u : TS} {D : Ends}
theorem ef_dnewK : EvF c env os tDNewK (.dK []) := fun ad σ H ok Q q p hp => q p _ hp (Ex.new hp) ⟨[], upd_same, .nil⟩
theorem ef_dnewT : EvF c env os tDNewT (.dT []) := fun ad σ H ok Q q p hp => q p _ hp (Ex.new hp) ⟨[], upd_same, .nil⟩
theorem ek_tup {ta : TA} {ks : List Key} (h : EvA true c env os ta (ks.map kdat)) (hl : ks.length ≤ 100000) : EvK c env os (tTup ta) (.tup (ks.map kV)) := ⟨rfl, fun ad σ H ok Q q =>
  h ad σ H ok _ fun vs H2 e r => by
    rw [dn_keys r]
    exact ⟨by rw [List.length_map]; exact Nat.le_trans hl (by decide), fun p hp => q p _ (e.trans (Ex.new hp)) upd_same⟩⟩
theorem ek_var {i : Nat} {o : HO} (h : env[i]? = some (some (.t o))) (hw : Wr o = false) : EvK c env os (tVar i) o := ⟨hw, fun ad σ H ok Q q => by
  obtain ⟨v, h1, b, rfl, e, _⟩ := ok.val i _ h
  exact ⟨_, h1, q b H (Ex.refl H) e⟩⟩
theorem ex_varT {i : Nat} {ks : List Key} (h : env[i]? = some (some (.t (.tup (ks.map kV))))) : EvX w c env os (tVar i) (tdat ks) := EvX.weak fun ad σ H ok Q q => by
  obtain ⟨v, h1, h2⟩ := ok.val i _ h
  exact ⟨v, h1, q v H (Ex.refl H) (by rw [Nw_false]; exact fix_dn h2)⟩
theorem Tg.fix {g : TG} {ks : List Key} {js : List Nat} (h : Tg c env os g (.i (tdat ks)) env' js) : Tg c env os g (.t (.tup (ks.map kV))) env' js := fun ad σ H v ok r Q q => h ad σ H v ok (show Dn _ _ _ _ _ from fix_dn r) Q q
/-- d[k] -/
theorem ex_dget {k : Nat} {kvs : List (Key × SV)} {kk : Key} (hl : EvR c env os td k) (hk : os[k]? = some (.dK kvs)) (hi : EvX true c env os ty (kdat kk)) (hg : getA kvs kk = some (.i d)) : EvX w c env os (tDGet td ty) d := EvX.weak fun ad σ H ok Q q =>
  hl.2 ad σ H ok _ fun H1 e1 => hi ad σ H1 (ok.ext e1) _ fun v H2 e2 r2 => by
    obtain ⟨_, ws, hws, pw⟩ := ((ok.ext e1).ext e2).obj k _ hk rfl
    rcases val_get (F := SvOk c.K (Nof c ad os) ad os.length H2) pw kk with ⟨_, b⟩ | ⟨x, s, a, b, f⟩
    · rw [hg] at b; cases b
    · rw [hg] at b; cases b
      exact ⟨ad k, x, rfl, by rw [dn_key r2, ← a]; exact DGet.k hws, q x H2 (e1.trans e2) (by rw [Nw_false]; exact f)⟩
/-- d.get(k, e) -/
theorem ex_dget2 {k : Nat} {kvs : List (Key × SV)} {kk : Key} {d2 : PyData} (hl : EvR c env os td k) (hk : os[k]? = some (.dK kvs)) (hi : EvX true c env os ty (kdat kk)) (hx : EvX false c env os tx d2) (hg : (getA kvs kk).getD (.i d2) = .i d) : EvX w c env os (tDGet2 td ty tx) d := EvX.weak fun ad σ H ok Q q =>
  hl.2 ad σ H ok _ fun H1 e1 => by
    obtain ⟨_, ws1, hws1, _⟩ := (ok.ext e1).obj k _ hk rfl
    refine ⟨ad k, rfl, Or.inl ⟨ws1, Or.inl hws1⟩, hi ad σ H1 (ok.ext e1) _ fun v H2 e2 r2 => hx ad σ H2 ((ok.ext e1).ext e2) _ fun z H3 e3 r3 => ?_⟩
    obtain ⟨_, ws, hws, pw⟩ := (((ok.ext e1).ext e2).ext e3).obj k _ hk rfl
    refine ⟨_, by rw [dn_key r2]; exact DGet.k hws, ?_⟩
    rcases val_get (F := SvOk c.K (Nof c ad os) ad os.length H3) pw kk with ⟨a, b⟩ | ⟨x, s, a, b, f⟩
    · rw [a]
      rw [b] at hg
      cases hg
      exact q z H3 ((e1.trans e2).trans e3) r3
    · rw [a]
      rw [b] at hg
      have hg : s = .i d := hg
      subst hg
      exact q x H3 ((e1.trans e2).trans e3) (by rw [Nw_false]; exact f)
/-- what a thing of either kind gives -/
theorem EvS.run {tv : TE} {s : SV} (h : EvS c env os tv s) {ad : Nat → Addr} {σ : L2.St} {H : Hp} (ok : Ok c ad env os σ H) {Q : VK} (q : ∀ v H2, Ex H H2 → SvOk c.K (Nof c ad os) ad os.length H2 v s → Q v H2) : tv σ H Q := by
  cases s with
  | i d => exact (show EvX false c env os tv d from h) ad σ H ok Q fun v H2 e r => q v H2 e (by rw [Nw_false] at r; exact r)
  | t o => exact (show EvK c env os tv o from h).2 ad σ H ok Q fun b H2 e r => q _ H2 e ⟨b, rfl, r, (show EvK c env os tv o from h).1⟩
  | ob C m => exact (show EvB c env os tv C m from h) ad σ H ok Q fun v H2 e r => q v H2 e r
  | r j => exact (show EvR c env os tv j from h).2 ad σ H ok Q fun H2 e => q _ H2 e ⟨rfl, (show EvR c env os tv j from h).1⟩
/-- d[k] = v -/
theorem gs_dput {k : Nat} {kvs : List (Key × SV)} {kk : Key} {s : SV} (h : EvS c env os tv s) (hl : EvR c env os td k) (hk : os[k]? = some (.dK kvs)) (hi : EvX true c env os ty (kdat kk)) (hz : kvs.length < 100000)
    (g : Go c env (os.set k (.dK (setA kvs kk s))) u D) : Go c env os (tSeq (sDPut td ty tv) u) D := fun ad σ H ok =>
  h.run ok fun v H1 e1 r => hl.2 ad σ H1 (ok.ext e1) _ fun H2 e2 => hi ad σ H2 ((ok.ext e1).ext e2) _ fun y H3 e3 r3 => by
    have ok3 := ((ok.ext e1).ext e2).ext e3
    obtain ⟨_, ws, hws, pw⟩ := ok3.obj k _ hk rfl
    have hN : Nof c ad os (ad k) := Or.inr ⟨k, ⟨_, hk, rfl⟩, rfl⟩
    refine ⟨ad k, _, rfl, ?_, g ad σ _ (ok3.mut hk rfl rfl ⟨putK ws kk v, upd_same, ?_⟩)⟩
    · rw [dn_key r3]
      exact DPut.k hws (by rw [Paired.length pw]; exact Nat.lt_of_lt_of_le hz (by decide))
    · exact put_set (Paired.imp pw fun _ _ z => ⟨z.1, z.2.mut hws rfl hN⟩) ((r.ext (e2.trans e3)).mut hws rfl hN)
/-- d[(..)] = v -/
theorem gs_dputT {k : Nat} {kvs : List (List Key × SV)} {ks : List Key} {s : SV} (h : EvS c env os tv s) (hl : EvR c env os td k) (hk : os[k]? = some (.dT kvs)) (hi : EvK c env os ty (.tup (ks.map kV))) (hz : kvs.length < 100000)
    (g : Go c env (os.set k (.dT (setA kvs ks s))) u D) : Go c env os (tSeq (sDPut td ty tv) u) D := fun ad σ H ok =>
  h.run ok fun v H1 e1 r => hl.2 ad σ H1 (ok.ext e1) _ fun H2 e2 => hi.2 ad σ H2 ((ok.ext e1).ext e2) _ fun b H3 e3 r3 => by
    have ok3 := ((ok.ext e1).ext e2).ext e3
    obtain ⟨_, ws, hws, pw⟩ := ok3.obj k _ hk rfl
    have hN : Nof c ad os (ad k) := Or.inr ⟨k, ⟨_, hk, rfl⟩, rfl⟩
    refine ⟨ad k, _, rfl, DPut.t hws r3 (by rw [Paired.length pw]; exact Nat.lt_of_lt_of_le hz (by decide)), g ad σ _ (ok3.mut hk rfl rfl ⟨putK ws ks v, upd_same, ?_⟩)⟩
    exact put_set (Paired.imp pw fun _ _ z => ⟨z.1, z.2.mut hws rfl hN⟩) ((r.ext (e2.trans e3)).mut hws rfl hN)
/-- sorted(d), keys ints -/
def srtI (ks : List Int) : List Int := ks.mergeSort fun a b => decide (a ≤ b)
theorem srtI_perm (ks : List Int) : (srtI ks).Perm ks := List.mergeSort_perm ks _
theorem srtI_sorted (ks : List Int) : (srtI ks).Pairwise (· ≤ ·) := by
  have h := List.pairwise_mergeSort (le := fun a b : Int => decide (a ≤ b)) (fun a b c h1 h2 => by simp at *; omega) (fun a b => by simp; omega) ks
  exact h.imp fun h => by simpa using h
theorem srt_uniq : ∀ {xs ys : List Int}, xs.Perm ys → xs.Pairwise (· ≤ ·) → ys.Pairwise (· ≤ ·) → xs = ys
  | [], ys, p, _, _ => (List.Perm.eq_nil p.symm).symm
  | x :: xs, [], p, _, _ => absurd p.length_eq (by simp)
  | x :: xs, y :: ys, p, h1, h2 => by
    have a1 := List.pairwise_cons.mp h1
    have a2 := List.pairwise_cons.mp h2
    have e : x = y := by
      have m1 : x ∈ y :: ys := p.mem_iff.mp (List.mem_cons_self ..)
      have m2 : y ∈ x :: xs := p.mem_iff.mpr (List.mem_cons_self ..)
      have l1 : y ≤ x := by rcases List.mem_cons.mp m1 with z | z
                            · omega
                            · exact a2.1 x z
      have l2 : x ≤ y := by rcases List.mem_cons.mp m2 with z | z
                            · omega
                            · exact a1.1 y z
      omega
    subst e
    rw [srt_uniq p.cons_inv a1.2 a2.2]
theorem ef_sortDK {k : Nat} {kvs : List (Key × SV)} {ks : List Int} (hl : EvR c env os td k) (hk : os[k]? = some (.dK kvs)) (hks : kvs.map (·.1) = ks.map Sum.inl) : EvF c env os (tCB rSortDKA (tCons td tNil)) (.lst (((srtI ks).map PyData.int).map SV.i)) := fun ad σ H ok Q q =>
  hl.2 ad σ H ok _ fun H1 e1 => by
    obtain ⟨_, ws, hws, pw⟩ := (ok.ext e1).obj k _ hk rfl
    have keys : ws.map (·.1) = kvs.map (·.1) := by
      clear hws hk hks
      generalize kvs = kvs at pw
      induction pw with
      | nil => rfl
      | cons r t ih => rw [List.map_cons, List.map_cons, r.1, ih]
    refine ⟨ad k, ws, ks, rfl, hws, keys.trans hks, fun ns p h1 h2 hp => ?_⟩
    have e : ns = srtI ks := srt_uniq (h1.trans (srtI_perm ks).symm) h2 (srtI_sorted ks)
    rw [e]
    exact q p _ (e1.free hp) (e1.trans (Ex.new hp)) ⟨_, upd_same, dn_paired (ints_dn _)⟩
end
end DL

set_option Elab.async false
set_option linter.all false
set_option maxRecDepth 100000
set_option maxHeartbeats 2000000
/-! The data layer: dicts as data, walks over keys and pairs, items that are set. -/
namespace DL
open PySem PySem.Spec PyProof.Rows L2
open Evl (Ex Ex.refl Ex.trans Ex.new)

/-! ### a dict with tuple keys, as data -/
def dTd {α β : Type} (ek : α → List Key) (ev : β → PyData) (m : List (α × β)) : PyData := .dict ((.none, .none) :: m.map fun p => (tdat (ek p.1), ev p.2))
theorem kdat_inj : ∀ {a b : Key}, kdat a = kdat b → a = b
  | .inl _, .inl _, h => by cases h; rfl
  | .inr _, .inr _, h => by cases h; rfl
  | .inl _, .inr _, h => by cases h
  | .inr _, .inl _, h => by cases h
theorem kdats_inj : ∀ {a b : List Key}, a.map kdat = b.map kdat → a = b
  | [], [], _ => rfl
  | [], _ :: _, h => by cases h
  | _ :: _, [], h => by cases h
  | x :: xs, y :: ys, h => by
    rw [List.map_cons, List.map_cons] at h
    injection h with h1 h2
    rw [kdat_inj h1, kdats_inj h2]
theorem tdat_inj {a b : List Key} (h : tdat a = tdat b) : a = b := by
  unfold tdat at h
  injection h with h
  exact kdats_inj h
section
variable {α β : Type} {K : PySem.W.Frag} {N : Addr → Prop} {H : Hp}
theorem dn_dT {ek : α → List Key} {ev : β → PyData} {m : List (α × β)} {v : V} (h : Dn K N H v (dTd ek ev m)) : ∃ a ws, v = .ref a ∧ H a = some (.dT ws) ∧ ¬ N a ∧ Paired (fun (p : List Key × V) (q : α × β) => p.1 = ek q.1 ∧ Dn K N H p.2 (ev q.2)) ws m := by
  unfold dTd at h
  cases h with
  | @dkk a ws _ r n p =>
    cases ws with
    | nil => cases p
    | cons x ws =>
      rw [List.map_cons] at p
      generalize hk : kdat x.1 = kd at p
      cases p
      obtain ⟨k, y⟩ := x
      cases k <;> cases hk
  | @dkt a ws _ r n p =>
    refine ⟨_, _, rfl, r, n, ?_⟩
    cases p with
    | cons _ p =>
      clear r
      induction m generalizing ws with
      | nil =>
        cases ws with
        | nil => exact .nil
        | cons x ws => cases p
      | cons q m ih =>
        cases ws with
        | nil => cases p
        | cons x ws =>
          rw [List.map_cons, List.map_cons] at p
          generalize hk : tdat x.1 = kd at p
          generalize hk2 : tdat (ek q.1) = kd2 at p
          cases p with
          | cons a b => exact .cons ⟨tdat_inj (hk.trans hk2.symm), a⟩ (ih b)
theorem dT_dn {ek : α → List Key} {ev : β → PyData} {m : List (α × β)} {a : Addr} {ws : List (List Key × V)} (r : H a = some (.dT ws)) (n : ¬ N a) (p : Paired (fun (p : List Key × V) (q : α × β) => p.1 = ek q.1 ∧ Dn K N H p.2 (ev q.2)) ws m) : Dn K N H (.ref a) (dTd ek ev m) := by
  refine .dkt r n (.cons .non ?_)
  clear r
  induction p with
  | nil => exact .nil
  | cons r t ih =>
    rw [List.map_cons, List.map_cons, r.1]
    exact .cons r.2 ih
theorem paired_len {γ δ : Type} {F : γ → δ → Prop} {l1 : List γ} {l2 : List δ} (h : Paired F l1 l2) : l1.length = l2.length := Paired.length h
variable [DecidableEq α]
theorem val_dT {ek : α → List Key} (hi : ∀ a b, ek a = ek b → a = b) {F : V → β → Prop} : ∀ {ws : List (List Key × V)} {m : List (α × β)}, Paired (fun (p : List Key × V) (q : α × β) => p.1 = ek q.1 ∧ F p.2 q.2) ws m → ∀ a, (valV ws (ek a) = none ∧ getA m a = none) ∨ ∃ v b, valV ws (ek a) = some v ∧ getA m a = some b ∧ F v b
  | _, _, .nil, a => Or.inl ⟨rfl, rfl⟩
  | _, _, .cons (a := p) (b := q) r t, a => by
    rw [getA_cons]
    by_cases h : q.1 = a
    · rw [if_pos h]
      exact Or.inr ⟨p.2, q.2, valV_pos (r.1.trans (by rw [h])), rfl, r.2⟩
    · rw [if_neg h, valV_neg (fun z => h (hi _ _ (r.1.symm.trans z)))]
      exact val_dT hi t a
end
section
variable {α β : Type} [DecidableEq α] {w w' : Bool} {c : Cn} {env env' : Sy} {os : List SO} {te ta tb tl td ty tv tx : TE} {d : PyData} {u : TS} {D : Ends} {ek : α → List Key} {ev : β → PyData} {m : List (α × β)}
/-- k in d -/
theorem ex_inT {a : α} (hi : ∀ a b, ek a = ek b → a = b) (hk : EvK c env os ty (.tup ((ek a).map kV))) (hd : EvX true c env os td (dTd ek ev m)) : EvX w c env os (tDIn ty td) (.bool (getA m a).isSome) := fun ad σ H ok Q q =>
  hk.2 ad σ H ok _ fun b H1 e1 r1 => hd ad σ H1 (ok.ext e1) _ fun v H2 e2 r2 => by
    obtain ⟨p, ws, rfl, hp, _, pw⟩ := dn_dT r2
    refine ⟨p, _, rfl, DGet.t hp (e2 _ _ r1), ?_⟩
    rcases val_dT (F := fun v b => Dn c.K (Nw true c ad os) H2 v (ev b)) hi pw a with ⟨x, y⟩ | ⟨v, b, x, y, _⟩
    · rw [y] at q; rw [x]; exact q _ H2 (e1.trans e2) (.bl false)
    · rw [y] at q; rw [x]; exact q _ H2 (e1.trans e2) (.bl true)
theorem ex_notinT {a : α} (hi : ∀ a b, ek a = ek b → a = b) (hk : EvK c env os ty (.tup ((ek a).map kV))) (hd : EvX true c env os td (dTd ek ev m)) : EvX w c env os (tDNotIn ty td) (.bool (!(getA m a).isSome)) := fun ad σ H ok Q q =>
  hk.2 ad σ H ok _ fun b H1 e1 r1 => hd ad σ H1 (ok.ext e1) _ fun v H2 e2 r2 => by
    obtain ⟨p, ws, rfl, hp, _, pw⟩ := dn_dT r2
    refine ⟨p, _, rfl, DGet.t hp (e2 _ _ r1), ?_⟩
    rcases val_dT (F := fun v b => Dn c.K (Nw true c ad os) H2 v (ev b)) hi pw a with ⟨x, y⟩ | ⟨v, b, x, y, _⟩
    · rw [y] at q; rw [x]; exact q _ H2 (e1.trans e2) (.bl true)
    · rw [y] at q; rw [x]; exact q _ H2 (e1.trans e2) (.bl false)
theorem ex_lenDT (hd : EvX true c env os td (dTd ek ev m)) : EvX w c env os (tCB rLenT (tCons td tNil)) (.int (m.length : Int)) := fun ad σ H ok Q q =>
  hd ad σ H ok _ fun v H2 e2 r2 => by
    obtain ⟨p, ws, rfl, hp, _, pw⟩ := dn_dT r2
    refine ⟨p, ws, rfl, hp, ?_⟩
    rw [paired_len pw]
    exact q _ H2 e2 (.int _)
/-- a dict of the store, as data for a call -/
theorem encT (m : List (α × β)) : (m.map fun p => (ek p.1, SV.i (ev p.2))).length = m.length := List.length_map _
theorem pairT {K : PySem.W.Frag} {N : Addr → Prop} {ad : Nat → Addr} {n : Nat} {H : Hp} : ∀ {ws : List (List Key × V)} {m : List (α × β)}, Paired (fun (p : List Key × V) (q : List Key × SV) => p.1 = q.1 ∧ SvOk K N ad n H p.2 q.2) ws (m.map fun p => (ek p.1, SV.i (ev p.2))) → Paired (fun (p : List Key × V) (q : α × β) => p.1 = ek q.1 ∧ Dn K N H p.2 (ev q.2)) ws m
  | _, [], h => by cases h; exact .nil
  | _, q :: m, h => by
    cases h with
    | cons a b => exact .cons a (pairT b)
theorem pairTi {K : PySem.W.Frag} {N : Addr → Prop} {ad : Nat → Addr} {n : Nat} {H : Hp} : ∀ {ws : List (List Key × V)} {m : List (α × β)}, Paired (fun (p : List Key × V) (q : α × β) => p.1 = ek q.1 ∧ Dn K N H p.2 (ev q.2)) ws m → Paired (fun (p : List Key × V) (q : List Key × SV) => p.1 = q.1 ∧ SvOk K N ad n H p.2 q.2) ws (m.map fun p => (ek p.1, SV.i (ev p.2)))
  | _, _, .nil => .nil
  | _, _, .cons r t => .cons r (pairTi t)
theorem EvF.evT (h : EvF c env os te (.dT (m.map fun p => (ek p.1, SV.i (ev p.2))))) : EvX w c env os te (dTd ek ev m) := EvX.weak fun ad σ H ok Q q => h ad σ H ok Q fun p H2 hp e r => by
  obtain ⟨ws, h1, h2⟩ := r
  refine q _ H2 e ?_
  rw [Nw_false]
  exact dT_dn h1 (fun z => ok.nof z hp) (Paired.imp (pairT h2) fun _ _ z => ⟨z.1, z.2.sub fun a y => Or.inl y⟩)
/-- a fresh dict is told by a def -/
def spT {α β : Type} (K : PySem.W.Frag) (ek : α → List Key) (ev : β → PyData) (R : List PyData → List (α × β) → Prop) : Sp := fun vs H Q _ => ∃ (N : Addr → Prop) (ds : List PyData) (m : List (α × β)), (∀ a, N a → H a ≠ none) ∧ DnAll K N H vs ds ∧ R ds m ∧
  ∀ p H' ws, H p = none → Ex H H' → H' p = some (.dT ws) → Paired (fun (x : List Key × V) (y : α × β) => x.1 = ek y.1 ∧ Dn K (fun a => N a ∨ a = p) H' x.2 (ev y.2)) ws m → Q (.ref p) H'
theorem ef_callT {R : List PyData → List (α × β) → Prop} {E : XK} {ta : TA} {ds : List PyData} (h : EvA false c env os ta ds) (hR : R ds m) : EvF c env os (tCall (spT c.K ek ev R) [] E ta) (.dT (m.map fun p => (ek p.1, SV.i (ev p.2)))) := fun ad σ H ok Q q =>
  h ad σ H ok _ fun vs H2 e a => by
    rw [List.append_nil]
    rw [Nw_false] at a
    exact ⟨Nof c ad os, ds, m, fun b z => (ok.ext e).nof z, a, hR, fun p H' ws hp e' h1 h2 => q p H' (e.free hp) (e.trans e') ⟨ws, h1, pairTi h2⟩⟩
theorem spT_len {K : PySem.W.Frag} {R : List PyData → List (α × β) → Prop} {n : Nat} (hR : ∀ ds d, R ds d → ds.length = n) : ∀ vs H Q E, spT K ek ev R vs H Q E → vs.length = n := fun vs H Q E ⟨N, ds, d, _, h, r, _⟩ => h.length.trans (hR ds d r)
def RetT (ek : α → List Key) (ev : β → PyData) (c : Cn) (m : List (α × β)) (D : Ends) : Prop := ∀ p H2 ws, c.H0 p = none → (∀ a o, c.H0 a = some o → ¬ c.M a → H2 a = some o) → H2 p = some (.dT ws) → Paired (fun (x : List Key × V) (y : α × β) => x.1 = ek y.1 ∧ Dn c.K (fun a => c.N0 a ∨ a = p) H2 x.2 (ev y.2)) ws m → D.rt (.ref p) H2
theorem gs_retT {k : Nat} (h : EvR c env os te k) (hk : os[k]? = some (.dT (m.map fun p => (ek p.1, SV.i (ev p.2))))) (hM : ∀ a, ¬ c.M a) (q : RetT ek ev c m D) : Go c env os (tSeq (tRet te) u) D := fun ad σ H ok =>
  h.2 ad σ H ok _ fun H2 e => by
    have ok2 := ok.ext e
    obtain ⟨h0, vs, h1, h2⟩ := ok2.obj k _ hk rfl
    refine q (ad k) H2 vs (h0.resolve_right (hM _)) ok2.ex h1 (Paired.imp (pairT h2) fun x y z => ⟨z.1, z.2.sub fun a y => ?_⟩)
    rcases y with y | y
    · exact Or.inl y
    · exact Or.inr ⟨k, ⟨_, hk, rfl⟩, y⟩
theorem run_spT {K : PySem.W.Frag} {R : List PyData → List (α × β) → Prop} {vs : List V} {H : Hp} {Q : VK} {E : XK} {Nm : List Str} {t : TS} (h : spT K ek ev R vs H Q E)
    (g : ∀ N ds m, R ds m → RetT ek ev ⟨K, H, N, fun _ => False, [], 0⟩ m (De Q) → Go ⟨K, H, N, fun _ => False, [], 0⟩ (env0 Nm.length ds) [] t (De Q)) : t (De Q) (L2.start Nm vs) H := by
  obtain ⟨N, ds, m, hN, hv, hR, hq⟩ := h
  exact g N ds m hR (fun p H2 ws hp e h1 h2 => hq p H2 ws hp (fun a o z => e a o z fun y => y) h1 h2) _ _ _ (ok_start hN hv)
end

/-! ### walks -/
/-- a new object is held fast from here on -/
def tFrz (te : TE) : TE := fun σ H Q => te σ H fun x H1 => ∃ d u, x = .ref d ∧ H1 d = some u ∧ Mut (some u) ∧ ∀ od, Q (.ref d) (upd H1 d (.frz od u))
theorem pe_frz {X : Cx} {e : Expr} {te : TE} (h : PE X e te) : PE X e (tFrz te) := ⟨fun pins s σ H Q I hw => wpAny_mono (h.run pins s σ H _ I hw) (fun v s1 h1 => by
  obtain ⟨x, H1, I1, r, d, u, rfl, hd, mu, q⟩ := h1
  obtain ⟨od, I2⟩ := I1.lock hd mu
  exact ⟨.ref d, _, I2, r, q od⟩) fun _ _ z => z⟩
section
variable {α β : Type} {w w' : Bool} {c : Cn} {env env' : Sy} {os : List SO} {te ta tb tl td ty tv tx : TE} {d : PyData} {u : TS} {D : Ends}
theorem Mut.wr {u : HO} (h : Mut (some u)) : Wr u = true := by cases u <;> first | rfl | cases h
/-- an object of the store is given away and changed -/
theorem Ok.kill {ad : Nat → Addr} {σ : L2.St} {H : Hp} {o : SO} {k : Nat} {u' : HO} (ok : Ok c ad env os σ H) (h0 : os[k]? = some o) (l0 : o.live = true) : Ok c ad env (os.set k .x) σ (upd H (ad k) u') := by
  have lk : Lv os k := ⟨o, h0, l0⟩
  have hl : ∀ j, Lv (os.set k .x) j → Lv os j ∧ j ≠ k := fun j h => by
    obtain ⟨u, e, hu⟩ := h
    by_cases q : k = j
    · subst q
      rw [List.getElem?_set_self (List.getElem?_eq_some_iff.mp h0).1] at e
      cases e; cases hu
    · rw [List.getElem?_set_ne q] at e; exact ⟨⟨u, e, hu⟩, fun z => q z.symm⟩
  have hN : ∀ a, Nof c ad (os.set k .x) a → Nof c ad os a := fun a h => by
    rcases h with h | ⟨j, l, e⟩
    · exact Or.inl h
    · exact Or.inr ⟨j, (hl j l).1, e⟩
  obtain ⟨hk0, hk1⟩ := ok.obj k o h0 l0
  obtain ⟨u0, eu, wu⟩ := hk1.some l0
  have hNk : Nof c ad os (ad k) := Or.inr ⟨k, lk, rfl⟩
  have hv : ∀ v s, SvOk c.K (Nof c ad os) ad os.length H v s → SvOk c.K (Nof c ad (os.set k .x)) ad (os.set k .x).length (upd H (ad k) u') v s := fun v s h => by
    rw [List.length_set]
    exact (h.mut eu wu hNk).sub hN
  refine ⟨ok.len, fun a x h m => ?_, fun a h => ?_, fun i s h => ?_, fun j x h l => ?_, fun a b la lb => ok.inj a b (hl a la).1 (hl b lb).1, fun a la => ok.nn a (hl a la).1, fun q hq => ((ok.frm q hq).mut eu wu hNk).sub hN, by rw [List.length_set]; exact ok.low⟩
  · by_cases q : a = ad k
    · subst q
      rcases hk0 with z | z
      · rw [z] at h; cases h
      · exact absurd z m
    · rw [upd_ne q]; exact ok.ex a x h m
  · by_cases q : a = ad k
    · rw [q, upd_same]; exact fun z => nomatch z
    · rw [upd_ne q]; exact ok.n0 a h
  · obtain ⟨v, h1, h2⟩ := ok.val i s h
    exact ⟨v, h1, hv v s h2⟩
  · by_cases q : k = j
    · subst q
      rw [List.getElem?_set_self (List.getElem?_eq_some_iff.mp h0).1] at h
      cases h; cases l
    · rw [List.getElem?_set_ne q] at h
      obtain ⟨h1, h2⟩ := ok.obj j x h l
      refine ⟨h1, h2.map hv fun y hy => ?_⟩
      rw [upd_ne]
      · exact hy
      · intro z
        exact q (ok.inj k j lk ⟨x, h, l⟩ z.symm)
/-- as EvW; the walk takes what it goes over -/
def EvW2 (c : Cn) (env : Sy) (os os2 : List SO) (wi : TI) (n : Nat) (it : Nat → SV) (G : List SO → Prop) : Prop := ∀ ad σ H, Ok c ad env os σ H → ∀ R : It → Hp → Prop,
  (∀ J H1 fr, Ok (c.w fr os.length) ad env os2 σ H1 → (∀ ad' env' os' σ' H', Ok (c.w fr os.length) ad' env' os' σ' H' → Ok c ad' env' os' σ' H') → WalkD (c.w fr os.length) J n it G → R J H1) → wi σ H R
theorem EvW.two {wi : TI} {n : Nat} {it : Nat → SV} {G : List SO → Prop} (h : EvW c env os wi n it G) : EvW2 c env os os wi n it G := fun ad σ H ok R q => h ad σ H ok R fun J H1 fr _ => q J H1 fr
def itK (kvs : List (List Key × SV)) : Nat → SV := fun i => .t (.tup (((kvs.getD i ([], .i .none)).1).map kV))
theorem keys_walk {c : Cn} {fr : List (V × SV)} {lo : Nat} {d : Addr} {od : Obj} {ws : List (List Key × V)} {kvs : List (List Key × SV)} (hk : ws.map (·.1) = kvs.map (·.1)) : WalkD (c.w ((.ref d, .t (.frz od (.dT ws))) :: fr) lo) (Itkt d od ws) kvs.length (itK kvs) (fun _ => True) := by
  have len : ws.length = kvs.length := by simpa using congrArg List.length hk
  have at' : ∀ {ad env os σ H}, Ok (c.w ((.ref d, .t (.frz od (.dT ws))) :: fr) lo) ad env os σ H → H d = some (.frz od (.dT ws)) := fun o => by
    obtain ⟨b, e1, e2, _⟩ := o.frm _ (List.mem_cons_self ..)
    cases e1
    exact e2
  refine ⟨fun i ad env os σ H hi o _ => ⟨at' o, by rw [len]; exact hi⟩, fun ad env os σ H o _ => ⟨at' o, by rw [len]; exact Nat.le_refl _⟩, fun i ad env os σ H x H' hi o _ y => ?_⟩
  obtain ⟨rfl, k, v, q, h1, rfl, h2⟩ := y
  refine ⟨Ex.refl _, ?_⟩
  have e : (kvs.getD i ([], .i .none)).1 = k := by
    have h3 : (ws.map (·.1))[i]? = some k := by rw [List.getElem?_map, h1]; rfl
    rw [hk, List.getElem?_map] at h3
    rw [List.getD_eq_getElem?_getD]
    cases hx : kvs[i]? with
    | none => rw [hx] at h3; cases h3
    | some y => rw [hx] at h3; exact Option.some.inj h3
  show SvOk _ _ _ _ _ _ (.t (.tup _))
  rw [e]
  exact ⟨q, rfl, h2, rfl⟩
theorem paired_keys {κ : Type} {F : V → SV → Prop} : ∀ {ws : List (κ × V)} {kvs : List (κ × SV)}, Paired (fun p q => p.1 = q.1 ∧ F p.2 q.2) ws kvs → ws.map (·.1) = kvs.map (·.1)
  | _, _, .nil => rfl
  | _, _, .cons r t => by rw [List.map_cons, List.map_cons, r.1, paired_keys t]
/-- the keys of a new dict -/
theorem ew_keysF {kvs : List (List Key × SV)} (h : EvF c env os td (.dT kvs)) : EvW2 c env os os (iKeys (tFrz td)) kvs.length (itK kvs) (fun _ => True) := fun ad σ H ok R q =>
  h ad σ H ok _ fun p H2 hp e r => by
    obtain ⟨ws, hws, pw⟩ := r
    refine ⟨p, _, rfl, hws, trivial, fun od => ⟨p, od, rfl, Or.inr ⟨ws, upd_same, ?_⟩⟩⟩
    have ex : Ex H (upd H2 p (.frz od (.dT ws))) := fun a o z => by
      rw [upd_ne (show a ≠ p from fun y => by subst y; rw [hp] at z; cases z)]
      exact e a o z
    exact q _ _ ((.ref p, .t (.frz od (.dT ws))) :: c.fr) ((ok.ext ex).pin ⟨p, rfl, upd_same, rfl⟩) (up_pin (ok.ext ex)) (keys_walk (paired_keys (F := SvOk c.K (fun a => Nof c ad os a ∨ a = p) ad os.length H2) pw))
/-- .. of a dict of the store, which is given away -/
theorem ew_keysO {k : Nat} {kvs : List (List Key × SV)} (h : EvR c env os td k) (hk : os[k]? = some (.dT kvs)) : EvW2 c env os (os.set k .x) (iKeys (tFrz td)) kvs.length (itK kvs) (fun _ => True) := fun ad σ H ok R q =>
  h.2 ad σ H ok _ fun H2 e => by
    have ok2 := ok.ext e
    obtain ⟨_, ws, hws, pw⟩ := ok2.obj k _ hk rfl
    refine ⟨ad k, _, rfl, hws, trivial, fun od => ⟨ad k, od, rfl, Or.inr ⟨ws, upd_same, ?_⟩⟩⟩
    have ok3 := ok2.kill (u' := .frz od (.dT ws)) hk rfl
    have hp := ok3.pin (v := .ref (ad k)) (s := .t (.frz od (.dT ws))) ⟨ad k, rfl, upd_same, rfl⟩
    have hu := up_pin (v := .ref (ad k)) (s := .t (.frz od (.dT ws))) ok3
    rw [List.length_set] at hp hu
    exact q _ _ _ hp hu (keys_walk (paired_keys (F := SvOk c.K (Nof c ad os) ad os.length H2) pw))
/-- zip of two lists of data -/
theorem ew_zip {as bs : List PyData} (ha : EvX false c env os ta (.list as)) (hb : EvX false c env os tb (.list bs)) : EvW c env os (iZip c.K (tCons ta (tCons tb tNil))) (min as.length bs.length) (fun i => .i (.tuple [as.getD i .none, bs.getD i .none])) (fun _ => True) := fun ad σ H ok R q =>
  ha ad σ H ok _ fun va H1 e1 r1 => hb ad σ H1 (ok.ext e1) _ fun vb H2 e2 r2 => by
    rw [Nw_false] at r1 r2
    have r1 := r1.ext e2
    obtain ⟨a, rfl⟩ := dn_list_ref r1
    obtain ⟨b, rfl⟩ := dn_list_ref r2
    obtain ⟨xs, hx, _⟩ := sql_of_dn r1
    obtain ⟨ys, hy, _⟩ := sql_of_dn r2
    have ok2 := (ok.ext e1).ext e2
    have p1 := ok2.pin (v := .ref a) (s := .i (.list as)) r1
    have p2 := p1.pin (v := .ref b) (s := .i (.list bs)) r2
    refine ⟨a, b, xs, ys, rfl, hx, hy, q _ H2 ((.ref b, .i (.list bs)) :: (.ref a, .i (.list as)) :: c.fr) (e1.trans e2) p2 (fun ad' env' os' σ' H' o => up_pin ok2 ad' env' os' σ' H' (up_pin p1 ad' env' os' σ' H' o)) ⟨fun i ad' env' os' σ' H' hi o _ => ?_, fun ad' env' os' σ' H' o _ => ?_, fun i ad' env' os' σ' H' x H'' hi o _ y => ?_⟩⟩
    all_goals
      have qa : Dn c.K (Nof c ad' os') H' (.ref a) (.list as) := o.frm _ (List.mem_cons_of_mem _ (List.mem_cons_self ..))
      have qb : Dn c.K (Nof c ad' os') H' (.ref b) (.list bs) := o.frm _ (List.mem_cons_self ..)
      obtain ⟨xs', hx', ax⟩ := sql_of_dn qa
      obtain ⟨ys', hy', ay⟩ := sql_of_dn qb
      have la := ax.length
      have lb := ay.length
    · have h1 : i < xs'.length := by omega
      have h2 : i < ys'.length := by omega
      exact ⟨xs', ys', xs'[i], ys'[i], hx', hy', List.getElem?_eq_getElem h1, List.getElem?_eq_getElem h2⟩
    · exact ⟨xs', ys', hx', hy', by omega⟩
    · obtain ⟨T, x1, y1, rfl, hT, rfl, fx, fy⟩ := y
      obtain ⟨d1, g1, k1⟩ := ax.getV (fx xs' hx')
      obtain ⟨d2, g2, k2⟩ := ay.getV (fy ys' hy')
      refine ⟨Ex.new hT, ?_⟩
      show Dn _ _ _ _ _
      rw [List.getD_eq_getElem?_getD, List.getD_eq_getElem?_getD, g1, g2]
      exact .tup (SqT.of upd_same) (.cons (k1.ext (Ex.new hT)) (.cons (k2.ext (Ex.new hT)) .nil))
/-- a for, as gs_for -/
theorem gs_for2 {g : TG} {tb u : TS} {D : Ends} {wi : TI} {n : Nat} {it : Nat → SV} {G : List SO → Prop} {os2 : List SO} (E : Nat → Sy) (O : Nat → List SO) (hw : EvW2 c env os os2 wi n it G)
    (h0 : ∀ c' : Cn, c'.lo = os.length → ∀ ad σ H, Ok c' ad env os2 σ H → Ok c' ad (E 0) (O 0) σ H) (hG : ∀ i, i ≤ n → G (O i))
    (hs : ∀ fr, Up c (c.w fr os.length) → ∀ i, i < n → ∃ env' js, Tg (c.w fr os.length) (E i) (O i) g (it i) env' js ∧ Go (c.w fr os.length) env' (O i) tb { D with nx := OkE (c.w fr os.length) (E (i + 1)) (O (i + 1)), ct := OkE (c.w fr os.length) (E (i + 1)) (O (i + 1)), bk := u D })
    (hd : Go c (E n) (O n) u D) : Go c env os (tSeq (tFor wi g tb) u) D := fun ad σ H ok => by
  refine hw ad σ H ok _ fun J H1 fr ok1 up W => ?_
  refine ⟨fun i m σ H => m = n - i ∧ i ≤ n ∧ OkE (c.w fr os.length) (E i) (O i) σ H, ⟨n, by simp, Nat.zero_le _, ad, h0 _ rfl ad σ H1 ok1⟩, ?_⟩
  rintro i m σ H ⟨rfl, hi, ad', ok'⟩
  by_cases hlt : i < n
  · refine .inr ⟨W.goes i _ _ _ _ _ hlt ok' (hG i hi), OkE (c.w fr os.length) (E (i + 1)) (O (i + 1)), fun σ' H' p' => ⟨n - (i + 1), by omega, rfl, hlt, p'⟩, fun x H' y => ?_⟩
    obtain ⟨e2, r⟩ := W.yields i _ _ _ _ _ x H' hlt ok' (hG i hi) y
    obtain ⟨env', js, ht, hb⟩ := hs fr up i hlt
    exact ht ad' σ H' x (ok'.ext e2) r _ fun σ2 ok2 _ => hb ad' σ2 H' ok2
  · have q : i = n := by omega
    subst q
    exact .inl ⟨W.stops _ _ _ _ _ ok' (hG i hi), hd ad' σ H (up _ _ _ _ _ ok')⟩
theorem gs_for2L {g : TG} {tb u : TS} {D : Ends} {γ : Type} {wi : TI} {xs : List γ} {e : γ → SV} {n : Nat} {it : Nat → SV} {G : List SO → Prop} {os2 : List SO} (E : List γ → Sy) (O : List γ → List SO) (hw : EvW2 c env os os2 wi n it G) (hn : n = xs.length) (hit : ∀ i x, xs[i]? = some x → it i = e x)
    (h0 : ∀ c' : Cn, c'.lo = os.length → ∀ ad σ H, Ok c' ad env os2 σ H → Ok c' ad (E []) (O []) σ H) (hG : ∀ pre post, xs = pre ++ post → G (O pre))
    (hs : ∀ fr, Up c (c.w fr os.length) → ∀ pre x post, xs = pre ++ x :: post → ∃ env' js, Tg (c.w fr os.length) (E pre) (O pre) g (e x) env' js ∧ Go (c.w fr os.length) env' (O pre) tb { D with nx := OkE (c.w fr os.length) (E (pre ++ [x])) (O (pre ++ [x])), ct := OkE (c.w fr os.length) (E (pre ++ [x])) (O (pre ++ [x])), bk := u D })
    (hd : Go c (E xs) (O xs) u D) : Go c env os (tSeq (tFor wi g tb) u) D := by
  subst hn
  refine gs_for2 (fun i => E (xs.take i)) (fun i => O (xs.take i)) hw (fun c' hc => by simpa using h0 c' hc) (fun i hi => hG _ (xs.drop i) (List.take_append_drop i xs).symm) (fun fr up i hi => ?_) (by simpa using hd)
  have e1 : xs = xs.take i ++ xs[i] :: xs.drop (i + 1) := by
    rw [List.getElem_cons_drop]; exact (List.take_append_drop i xs).symm
  obtain ⟨env', js, h1, h2⟩ := hs fr up (xs.take i) xs[i] (xs.drop (i + 1)) e1
  rw [hit i xs[i] (List.getElem?_eq_getElem hi)]
  refine ⟨env', js, h1, ?_⟩
  have e2 : xs.take (i + 1) = xs.take i ++ [xs[i]] := by rw [List.take_succ, List.getElem?_eq_getElem hi]; rfl
  simp only [e2]
  exact h2

/-! ### parts of a tuple, items that are set -/
theorem ex_sliceT {tl th : TO} {ds : List PyData} {lo hi : Option Int} (h : EvX w c env os te (.tuple ds)) (h1 : EvO c env os tl lo) (h2 : EvO c env os th hi) (hw : ¬ (HT.sIx ds.length 0 lo = 0 ∧ HT.sIx ds.length ds.length hi = ds.length)) : EvX w c env os (tSl (rSlT c.K) te tl th) (.tuple (cutG ds lo hi)) := fun ad σ H ok Q q =>
  h ad σ H ok _ fun v H1 e1 r1 => h1 ad σ H1 (ok.ext e1) _ fun H2 e2 => h2 ad σ H2 ((ok.ext e1).ext e2) _ fun H3 e3 => by
    obtain ⟨a, xs, rfl, hs, ha⟩ := dn_tup_ref (r1.ext (e2.trans e3))
    refine ⟨a, xs, rfl, hs, by rw [ha.length]; exact hw, fun p hp => q _ _ (((e1.trans e2).trans e3).trans (Ex.new hp)) (.tup (SqT.of upd_same) ?_)⟩
    unfold cutV cutG
    rw [ha.length]
    exact ((ha.drop _).take _).ext (Ex.new hp)
theorem paired_set {γ δ : Type} {F : γ → δ → Prop} {a : γ} {b : δ} : ∀ {l1 : List γ} {l2 : List δ} (j : Nat), Paired F l1 l2 → F a b → Paired F (l1.set j a) (l2.set j b)
  | _, _, _, .nil, _ => .nil
  | _, _, 0, .cons r t, h => .cons h t
  | _, _, j + 1, .cons r t, h => .cons r (paired_set j t h)
/-- xs[i] = e -/
theorem gs_setI {k j : Nat} {ss : List SV} {s : SV} {i : Int} (h : EvS c env os te s) (hl : EvR c env os tl k) (hk : os[k]? = some (.lst ss)) (hi : EvX true c env os tb (.int i)) (hj : ixN ss.length i = some j)
    (g : Go c env (os.set k (.lst (ss.set j s))) u D) : Go c env os (tSeq (tAsg te (gSub tl tb rSetL)) u) D := fun ad σ H ok =>
  h.run ok fun v H1 e1 r => hl.2 ad σ H1 (ok.ext e1) _ fun H2 e2 => hi ad σ H2 ((ok.ext e1).ext e2) _ fun y H3 e3 r3 => by
    have ok3 := ((ok.ext e1).ext e2).ext e3
    obtain ⟨_, vs, hvs, pv⟩ := ok3.obj k _ hk rfl
    have hN : Nof c ad os (ad k) := Or.inr ⟨k, ⟨_, hk, rfl⟩, rfl⟩
    refine ⟨ad k, vs, i, j, rfl, dn_int r3, hvs, by rw [Paired.length pv]; exact hj, g ad σ _ (ok3.mut hk rfl rfl ⟨vs.set j v, upd_same, ?_⟩)⟩
    exact paired_set j (Paired.imp pv fun _ _ z => z.mut hvs rfl hN) ((r.ext (e2.trans e3)).mut hvs rfl hN)
end
end DL

set_option Elab.async false
set_option linter.all false
set_option maxRecDepth 100000
set_option maxHeartbeats 4000000
/-! The data layer: sets of ints by comprehension. -/
namespace DL
open PySem PySem.Spec PyProof.Rows L2
open Evl (Ex Ex.refl Ex.trans Ex.new)
def addS (p : (Int → Bool) × Nat) (z : Int) : (Int → Bool) × Nat := (fun j => p.1 j || decide (j = z), if p.1 z = true then p.2 else p.2 + 1)
def setOf (zs : List Int) : (Int → Bool) × Nat := zs.foldl addS (fun _ => false, 0)
theorem setOf_snoc (zs : List Int) (z : Int) : setOf (zs ++ [z]) = addS (setOf zs) z := by unfold setOf; rw [List.foldl_append]; rfl
theorem setOf_mem (zs : List Int) : ∀ j, (setOf zs).1 j = decide (j ∈ zs) := by
  have key : ∀ n, ∀ zs : List Int, zs.length = n → ∀ j, (setOf zs).1 j = decide (j ∈ zs) := by
    intro n
    induction n with
    | zero => intro zs h j; rw [List.length_eq_zero_iff.mp h]; rfl
    | succ n ih =>
      intro zs h j
      obtain ⟨ys, y, rfl⟩ : ∃ ys y, zs = ys ++ [y] := by
        have ne : zs ≠ [] := fun z => by rw [z] at h; cases h
        exact ⟨zs.dropLast, zs.getLast ne, (List.dropLast_concat_getLast ne).symm⟩
      rw [setOf_snoc]
      show ((setOf ys).1 j || decide (j = y)) = _
      rw [ih ys (by simpa using h) j]
      by_cases h1 : j ∈ ys <;> by_cases h2 : j = y <;> simp [h1, h2]
  exact key _ zs rfl
/-- the count is at most that of any list that has them all -/
theorem setOf_le (zs Z : List Int) (h : ∀ z ∈ zs, z ∈ Z) : ∃ l : List Int, l.Nodup ∧ l.length = (setOf zs).2 ∧ ∀ j, j ∈ l ↔ j ∈ zs := by
  have key : ∀ n, ∀ zs : List Int, zs.length = n → ∃ l : List Int, l.Nodup ∧ l.length = (setOf zs).2 ∧ ∀ j, j ∈ l ↔ j ∈ zs := by
    intro n
    induction n with
    | zero => intro zs h; rw [List.length_eq_zero_iff.mp h]; exact ⟨[], List.nodup_nil, rfl, fun j => Iff.rfl⟩
    | succ n ih =>
      intro zs h
      obtain ⟨ys, y, rfl⟩ : ∃ ys y, zs = ys ++ [y] := by
        have ne : zs ≠ [] := fun z => by rw [z] at h; cases h
        exact ⟨zs.dropLast, zs.getLast ne, (List.dropLast_concat_getLast ne).symm⟩
      obtain ⟨l, h1, h2, h3⟩ := ih ys (by simpa using h)
      rw [setOf_snoc]
      show ∃ l : List Int, l.Nodup ∧ l.length = (if (setOf ys).1 y = true then (setOf ys).2 else (setOf ys).2 + 1) ∧ _
      rw [setOf_mem]
      by_cases hy : y ∈ ys
      · refine ⟨l, h1, by rw [if_pos (by simpa using hy)]; exact h2, fun j => ?_⟩
        rw [h3 j, List.mem_append, List.mem_singleton]
        exact ⟨Or.inl, fun z => z.elim id fun e => e ▸ hy⟩
      · refine ⟨y :: l, List.nodup_cons.mpr ⟨fun z => hy ((h3 y).mp z), h1⟩, by rw [if_neg (by simpa using hy), List.length_cons, h2], fun j => ?_⟩
        rw [List.mem_cons, h3 j, List.mem_append, List.mem_singleton]
        exact ⟨fun z => z.symm, fun z => z.symm⟩
  exact key _ zs rfl
theorem nodup_le : ∀ {l Z : List Int}, l.Nodup → (∀ z ∈ l, z ∈ Z) → l.length ≤ Z.length
  | [], Z, _, _ => Nat.zero_le _
  | x :: l, Z, h, s => by
    obtain ⟨h1, h2⟩ := List.nodup_cons.mp h
    have hx := s x (List.mem_cons_self ..)
    have := nodup_le (l := l) (Z := Z.erase x) h2 fun z hz => (List.mem_erase_of_ne (show z ≠ x from fun e => h1 (e ▸ hz))).mpr (s z (List.mem_cons_of_mem _ hz))
    rw [List.length_erase_of_mem hx] at this
    have : 0 < Z.length := List.length_pos_of_mem hx
    rw [List.length_cons]
    omega
theorem setOf_bound {zs Z : List Int} (h : ∀ z ∈ zs, z ∈ Z) : (setOf zs).2 ≤ Z.length := by
  obtain ⟨l, h1, h2, h3⟩ := setOf_le zs Z h
  rw [← h2]
  exact nodup_le h1 fun z hz => h z ((h3 z).mp hz)
/-- each once, ascending -/
def dd : List Int → List Int
  | [] => []
  | z :: zs => if z ∈ zs then dd zs else z :: dd zs
theorem dd_mem : ∀ {zs : List Int} {j : Int}, j ∈ dd zs ↔ j ∈ zs
  | [], j => Iff.rfl
  | z :: zs, j => by
    unfold dd
    split
    · rename_i h
      rw [dd_mem, List.mem_cons]
      exact ⟨Or.inr, fun q => q.elim (fun e => e ▸ h) id⟩
    · rw [List.mem_cons, List.mem_cons, dd_mem]
theorem dd_nodup : ∀ zs : List Int, (dd zs).Nodup
  | [] => List.nodup_nil
  | z :: zs => by
    unfold dd
    split
    · exact dd_nodup zs
    · rename_i h
      exact List.nodup_cons.mpr ⟨fun q => h (dd_mem.mp q), dd_nodup zs⟩
def asc (zs : List Int) : List Int := srtI (dd zs)
theorem asc_mem {zs : List Int} {j : Int} : j ∈ asc zs ↔ j ∈ zs := by unfold asc; rw [(srtI_perm _).mem_iff, dd_mem]
theorem asc_lt (zs : List Int) : (asc zs).Pairwise (· < ·) := by
  have h1 := srtI_sorted (dd zs)
  have h2 : (srtI (dd zs)).Nodup := (srtI_perm _).nodup_iff.mpr (dd_nodup zs)
  exact lt_of_le_nodup _ h1 h2
theorem asc_uniq : ∀ {xs ys : List Int}, xs.Pairwise (· < ·) → ys.Pairwise (· < ·) → (∀ j, j ∈ xs ↔ j ∈ ys) → xs = ys
  | [], [], _, _, _ => rfl
  | [], y :: ys, _, _, h => absurd ((h y).mpr (List.mem_cons_self ..)) (List.not_mem_nil)
  | x :: xs, [], _, _, h => absurd ((h x).mp (List.mem_cons_self ..)) (List.not_mem_nil)
  | x :: xs, y :: ys, h1, h2, h => by
    have a1 := List.pairwise_cons.mp h1
    have a2 := List.pairwise_cons.mp h2
    have e : x = y := by
      have m1 := (h x).mp (List.mem_cons_self ..)
      have m2 := (h y).mpr (List.mem_cons_self ..)
      rcases List.mem_cons.mp m1 with z | z
      · exact z
      · rcases List.mem_cons.mp m2 with z' | z'
        · exact z'.symm
        · have b1 := a2.1 x z
          have b2 := a1.1 y z'
          omega
    subst e
    rw [asc_uniq a1.2 a2.2 fun j => ?_]
    constructor
    · intro hj
      rcases List.mem_cons.mp ((h j).mp (List.mem_cons_of_mem _ hj)) with z | z
      · have := a1.1 j hj; omega
      · exact z
    · intro hj
      rcases List.mem_cons.mp ((h j).mpr (List.mem_cons_of_mem _ hj)) with z | z
      · have := a2.1 j hj; omega
      · exact z
theorem wipe_idem (vs : List Nat) (σ : L2.St) : wipe (wipe σ vs) vs = wipe σ vs := by
  have go : ∀ (us : List Nat) (τ : L2.St), (∀ j ∈ us, τ[j]? = some none ∨ τ[j]? = none) → wipe τ us = τ := by
    intro us
    induction us with
    | nil => intro τ _; rfl
    | cons u us ih =>
      intro τ h
      show (wipe τ us).set u none = τ
      rw [ih τ fun j hj => h j (List.mem_cons_of_mem _ hj)]
      rcases h u (List.mem_cons_self ..) with z | z
      · obtain ⟨h1, h2⟩ := List.getElem?_eq_some_iff.mp z
        exact List.ext_getElem? fun k => by
          by_cases q : u = k
          · subst q; rw [List.getElem?_set_self h1, z]
          · rw [List.getElem?_set_ne q]
      · exact List.set_eq_of_length_le (List.getElem?_eq_none_iff.mp z)
  refine go vs _ fun j hj => ?_
  cases hx : (wipe σ vs)[j]? with
  | none => exact Or.inr rfl
  | some o =>
    cases o with
    | none => exact Or.inl rfl
    | some v => exact absurd hj (wipe_some hx).2
def soS (w : World) (zs : List Int) : SO := .ho fun a => SetO w a (setOf zs).1 (setOf zs).2
section
variable {c : Cn} {env : Sy} {os : List SO} {g g1 : TG} {tt tt1 : TT} {te ts : TE}
theorem so_set (w : World) (zs : List Int) (o' : SO) (os : List SO) : (os ++ [o']).set os.length (soS w zs) = os ++ [soS w zs] := by
  rw [List.set_append_right _ _ (Nat.le_refl _), Nat.sub_self]
  rfl
/-- one more int in the set -/
theorem Ok.addS {ad : Nat → Addr} {σ : L2.St} {H : Hp} {w : World} {zs : List Int} {z : Int} (ok : Ok c ad env (os ++ [soS w zs]) σ H) : Ok c ad env (os ++ [soS w (zs ++ [z])]) σ (upd H (ad os.length) (SetO w (ad os.length) (fun j => (setOf zs).1 j || decide (j = z)) (if (setOf zs).1 z = true then (setOf zs).2 else (setOf zs).2 + 1))) := by
  have m := ok.mut (k := os.length) (o := soS w zs) (o' := soS w (zs ++ [z])) (u' := SetO w (ad os.length) (fun j => (setOf zs).1 j || decide (j = z)) (if (setOf zs).1 z = true then (setOf zs).2 else (setOf zs).2 + 1)) (by simp) rfl rfl ⟨by
    rw [upd_same, setOf_snoc]; rfl, rfl⟩
  rw [so_set] at m
  exact m
theorem Ok.theS {ad : Nat → Addr} {σ : L2.St} {H : Hp} {w : World} {zs : List Int} (ok : Ok c ad env (os ++ [soS w zs]) σ H) : H (ad os.length) = some (SetO w (ad os.length) (setOf zs).1 (setOf zs).2) := (ok.obj os.length (soS w zs) (by simp) rfl).2.1
theorem ef_sc2 {α : Type} {w : World} {wi wi1 : TI} {n : Nat} {it : Nat → SV} {G : List SO → Prop} {xs : List α} {e : α → SV} {vs vs1 : List Nat} (f : α → List Int) (hw : EvW c env os wi n it G) (hn : n = xs.length) (hit : ∀ i x, xs[i]? = some x → it i = e x)
    (hG : ∀ o, G (os ++ [o])) (hz : ∀ zs : List Int, (∀ z ∈ zs, z ∈ xs.flatMap f) → (setOf zs).2 + 1 < scanBound)
    (hs : ∀ fr lo, Up c (c.w fr lo) → ∀ o x, x ∈ xs → ∃ env' js, (∀ j ∈ js, j ∈ vs) ∧ Tg (c.w fr lo) (wipeE env vs) (os ++ [o]) g (e x) env' js ∧ EvT (c.w fr lo) env' (os ++ [o]) tt true ∧
      ∃ n1 it1 G1, EvW (c.w fr lo) env' (os ++ [o]) wi1 n1 it1 G1 ∧ n1 = (f x).length ∧ (∀ i z, (f x)[i]? = some z → it1 i = .i (.int z)) ∧ (∀ o', G1 (os ++ [o'])) ∧
        ∀ fr1 lo1, ∀ o' z, z ∈ f x → ∃ env'' js1, (∀ j ∈ js1, j ∈ vs1) ∧ Tg (c.w fr1 lo1) (wipeE env' vs1) (os ++ [o']) g1 (.i (.int z)) env'' js1 ∧ EvT (c.w fr1 lo1) env'' (os ++ [o']) tt1 true ∧ EvX true (c.w fr1 lo1) env'' (os ++ [o']) te (.int z)) :
    EvF c env os (tSc2 w wi g tt wi1 g1 tt1 te vs vs1) (soS w (xs.flatMap f)) := fun ad σ H ok Q q => by
  subst hn
  refine hw ad σ H ok _ fun J H1 fr e1 ok1 up W D hD => ?_
  have h0 : (c.w fr os.length).H0 D = none ∨ (c.w fr os.length).M D := by
    by_cases hm : c.M D
    · exact Or.inr hm
    · refine Or.inl ?_
      show c.H0 D = none
      cases hz : c.H0 D with
      | none => rfl
      | some o => rw [ok1.ex D o hz hm] at hD; cases hD
  have ok2 := ok1.new (o := soS w []) hD (Ex.new (o := SetO w D (fun _ => false) 0) hD) h0 ⟨upd_same, rfl⟩
  have ok3 := ok2.pin (v := .ref D) (s := .r os.length) ⟨congrArg V.ref adN_same.symm, by simp⟩
  have ok4 := ok3.wipe vs
  have up2 := up_pin (v := .ref D) (s := .r os.length) ok2
  generalize hlo : (os ++ [soS w []]).length = lo at ok4 up2
  generalize hfr : ((V.ref D, SV.r os.length) :: fr) = fr' at ok4 up2
  have upc : Up c (c.w fr' lo) := fun a b d e f z => up _ _ _ _ _ (up2 _ _ _ _ _ z)
  have hlen : ∀ zs, (os ++ [soS w zs]).length = lo := fun zs => by rw [← hlo, List.length_append, List.length_append]; rfl
  let A : Nat → List Int := fun i => (xs.take i).flatMap f
  have inA : ∀ i, ∀ z ∈ A i, z ∈ xs.flatMap f := fun i z h => by
    obtain ⟨x, h1, h2⟩ := List.mem_flatMap.mp h
    exact List.mem_flatMap.mpr ⟨x, List.mem_of_mem_take h1, h2⟩
  refine ⟨fun i m H => m = xs.length - i ∧ i ≤ xs.length ∧ Ok (c.w fr' lo) (adN ad os.length D) (wipeE env vs) (os ++ [soS w (A i)]) (wipe σ vs) H ∧ Ex H1 H, ⟨xs.length, by simp, Nat.zero_le _, ok4, Ex.new hD⟩, ?_⟩
  rintro i m H' ⟨rfl, hi, ok', ex1⟩
  by_cases hlt : i < xs.length
  · have e0 : xs[i]? = some xs[i] := List.getElem?_eq_getElem hlt
    have et : A (i + 1) = A i ++ f xs[i] := by
      show (xs.take (i + 1)).flatMap f = _
      rw [List.take_succ, e0, List.flatMap_append]
      simp [A]
    refine .inr ⟨W.goes i _ _ _ _ _ hlt (up2 _ _ _ _ _ ok') (hG _), fun H'' => Ok (c.w fr' lo) (adN ad os.length D) (wipeE env vs) (os ++ [soS w (A (i + 1))]) (wipe σ vs) H'' ∧ Ex H1 H'', fun H'' p' => ⟨xs.length - (i + 1), by omega, rfl, hlt, p'.1, p'.2⟩, fun x H'' y => ?_⟩
    obtain ⟨e2, r⟩ := W.yields i _ _ _ _ _ x H'' hlt (up2 _ _ _ _ _ ok') (hG _) y
    rw [hit i xs[i] e0] at r
    have ok5 := ok'.ext e2
    obtain ⟨env', js, hjs, ht, hb, n1, it1, G1, hw1, hn1, hit1, hG1, hs1⟩ := hs fr' lo upc (soS w (A i)) xs[i] (List.getElem_mem hlt)
    refine ht _ _ H'' x ok5 r _ fun σ2 ok6 hwp => ⟨?_, hb _ σ2 H'' ok6 _ fun H3 e3 => ?_⟩
    · rw [hwp vs hjs]
      exact wipe_idem vs σ
    · rw [if_pos rfl]
      subst hn1
      have ok7 := ok6.ext e3
      refine hw1 _ σ2 H3 ok7 _ fun J1 H4 fr1 e4 ok8 up8 W1 => ?_
      have ok9 := ((ok5.ext e3).ext e4)
      refine ⟨fun j k H => k = (f xs[i]).length - j ∧ j ≤ (f xs[i]).length ∧ Ok (c.w fr1 (os ++ [soS w (A i)]).length) (adN ad os.length D) (wipeE env' vs1) (os ++ [soS w (A i ++ (f xs[i]).take j)]) (wipe σ2 vs1) H ∧ Ok (c.w fr' lo) (adN ad os.length D) (wipeE env vs) (os ++ [soS w (A i ++ (f xs[i]).take j)]) (wipe σ vs) H ∧ Ok (c.w fr1 (os ++ [soS w (A i)]).length) (adN ad os.length D) env' (os ++ [soS w (A i ++ (f xs[i]).take j)]) σ2 H ∧ Ex H1 H,
        ⟨(f xs[i]).length, by simp, Nat.zero_le _, by rw [List.take_zero, List.append_nil]; exact ok8.wipe vs1, by rw [List.take_zero, List.append_nil]; exact ok9, by rw [List.take_zero, List.append_nil]; exact ok8, ((ex1.trans e2).trans e3).trans e4⟩, ?_⟩
      rintro j k H5 ⟨rfl, hj, oki, oko, okf, ex5⟩
      by_cases hlt1 : j < (f xs[i]).length
      · have e0' : (f xs[i])[j]? = some (f xs[i])[j] := List.getElem?_eq_getElem hlt1
        have et' : (f xs[i]).take (j + 1) = (f xs[i]).take j ++ [(f xs[i])[j]] := by rw [List.take_succ, e0']; rfl
        refine .inr ⟨W1.goes j _ _ _ _ _ hlt1 okf (hG1 _), fun H6 => Ok (c.w fr1 (os ++ [soS w (A i)]).length) (adN ad os.length D) (wipeE env' vs1) (os ++ [soS w (A i ++ (f xs[i]).take (j + 1))]) (wipe σ2 vs1) H6 ∧ Ok (c.w fr' lo) (adN ad os.length D) (wipeE env vs) (os ++ [soS w (A i ++ (f xs[i]).take (j + 1))]) (wipe σ vs) H6 ∧ Ok (c.w fr1 (os ++ [soS w (A i)]).length) (adN ad os.length D) env' (os ++ [soS w (A i ++ (f xs[i]).take (j + 1))]) σ2 H6 ∧ Ex H1 H6,
          fun H6 p6 => ⟨(f xs[i]).length - (j + 1), by omega, rfl, hlt1, p6.1, p6.2.1, p6.2.2.1, p6.2.2.2⟩, fun x1 H6 y1 => ?_⟩
        obtain ⟨e6, r6⟩ := W1.yields j _ _ _ _ _ x1 H6 hlt1 okf (hG1 _) y1
        rw [hit1 j _ e0'] at r6
        have oki6 := oki.ext e6
        obtain ⟨env'', js1, hjs1, ht1, hb1, he1⟩ := hs1 fr1 (os ++ [soS w (A i)]).length (soS w (A i ++ (f xs[i]).take j)) (f xs[i])[j] (List.getElem_mem hlt1)
        refine ht1 _ _ H6 x1 oki6 r6 _ fun σ3 ok10 hwp1 => ⟨?_, hb1 _ σ3 H6 ok10 _ fun H7 e7 => ?_⟩
        · rw [hwp1 vs1 hjs1]
          exact wipe_idem vs1 σ2
        · rw [if_pos rfl]
          refine he1 _ σ3 H7 (ok10.ext e7) _ fun y H8 e8 ry => ?_
          have oki8 := (oki6.ext e7).ext e8
          have oko8 := ((oko.ext e6).ext e7).ext e8
          have okf8 := ((okf.ext e6).ext e7).ext e8
          have hS := oki8.theS
          have m1 := oki8.addS (z := (f xs[i])[j])
          have m2 := oko8.addS (z := (f xs[i])[j])
          have m3 := okf8.addS (z := (f xs[i])[j])
          rw [adN_same] at hS m1 m2 m3
          refine ⟨(f xs[i])[j], _, _, dn_int ry, hS, hz _ (fun z hz => ?_), ?_⟩
          · rcases List.mem_append.mp hz with h | h
            · exact inA i z h
            · exact List.mem_flatMap.mpr ⟨xs[i], List.getElem_mem hlt, List.mem_of_mem_take h⟩
          · rw [et', ← List.append_assoc]
            refine ⟨m1, m2, m3, fun a o h => ?_⟩
            rw [upd_ne (ne_of_none h hD)]
            exact ((ex5.trans e6).trans e7).trans e8 a o h
      · have q1 : j = (f xs[i]).length := by omega
        refine .inl ⟨by rw [q1]; exact W1.stops _ _ _ _ _ okf (hG1 _), ?_, ex5⟩
        rw [et]
        rw [q1, List.take_length] at oko
        exact oko
  · have q1 : i = xs.length := by omega
    refine .inl ⟨by rw [q1]; exact W.stops _ _ _ _ _ (up2 _ _ _ _ _ ok') (hG _), ?_⟩
    have ea : A i = xs.flatMap f := by show (xs.take i).flatMap f = _; rw [q1, List.take_length]
    have hS := ok'.theS
    rw [adN_same, ea] at hS
    exact q D H' (e1.free hD) (e1.trans ex1) ⟨hS, rfl⟩
/-- sorted of that -/
theorem ef_sortSet {w : World} {zs : List Int} (h : EvF c env os ts (soS w zs)) : EvF c env os (tCB (rSortSetA w) (tCons ts tNil)) (.lst (((asc zs).map PyData.int).map SV.i)) := fun ad σ H ok Q q =>
  h ad σ H ok _ fun p H2 hp e r => by
    refine ⟨p, _, _, rfl, r.1, fun ns l h1 h2 h3 hl => ?_⟩
    have en : ns = asc zs := asc_uniq h1 (asc_lt zs) fun j => by rw [h2 j, setOf_mem, decide_eq_true_iff, asc_mem]
    rw [en]
    exact q l _ (e.free hl) (e.trans (Ex.new hl)) ⟨_, upd_same, dn_paired (ints_dn _)⟩
end

theorem u1 {n m : Nat} (h : n + 64 < m) : n + 1 < m := by omega

theorem kZip {X : Cx} {K : PySem.W.Frag} {e e2 : Expr} {ta : TA} {p pos tpos : Pos} {elts : List Expr} {kk : Nat} (hg : Gl X "zip") (hm : X.mg "zip" = none) (ha : PA X [e, e2] ta) (hs : starEach [e, e2] X.env = (false, eval e X.env) :: starEach [e2] X.env := by rfl) (hpl : (backTo pos (starEach [e2] X.env)).any (·.1) = false := by rfl) (h : X.K = K := by rfl) : PI X (.Tuple elts kk tpos) (.Call (.Name "zip" p) [e, e2] [] pos) (iZip K ta) := by
  subst h
  exact pi_zip hg hm ha hs hpl
theorem soLt_dK {α β : Type} {ek : α → Key} {ev : β → PyData} {m : List (α × β)} {n : Nat} : SoLt n (.dK (m.map fun p => (ek p.1, SV.i (ev p.2)))) := fun p hp => by obtain ⟨q, _, rfl⟩ := List.mem_map.mp hp; exact True.intro
theorem soLt_dT {α β : Type} {ek : α → List Key} {ev : β → PyData} {m : List (α × β)} {n : Nat} : SoLt n (.dT (m.map fun p => (ek p.1, SV.i (ev p.2)))) := fun p hp => by obtain ⟨q, _, rfl⟩ := List.mem_map.mp hp; exact True.intro
theorem EvR.dataT {α β : Type} [DecidableEq α] {c : Cn} {env : Sy} {os : List SO} {te : TE} {ek : α → List Key} {ev : β → PyData} {m : List (α × β)} {k : Nat} (h : EvR c env os te k) (hk : os[k]? = some (.dT (m.map fun p => (ek p.1, SV.i (ev p.2))))) : EvX true c env os te (dTd ek ev m) := fun ad σ H ok Q q => h.2 ad σ H ok Q fun H2 e => by
  have ok2 := ok.ext e
  obtain ⟨_, ws, h1, h2⟩ := ok2.obj k _ hk rfl
  exact q _ H2 e (dT_dn h1 (fun z => ok2.nn k ⟨_, hk, rfl⟩ (Nw_true _ z)) (Paired.imp (pairT h2) fun _ _ z => ⟨z.1, z.2.sub fun a y => Or.inl (Nw_true a y)⟩))
/-- the same, once for all -/
theorem EvX.at0 {w : Bool} {c : Cn} {env : Sy} {os : List SO} {te : TE} {d d' : PyData} (h : EvX w c env os te d) (e : d = d') : EvX w c env os te d' := e ▸ h
theorem ew_range3 {c : Cn} {env : Sy} {os : List SO} {ta : TA} {i j s : Int} {n : Nat} (h : EvA true c env os ta [.int i, .int j, .int s]) (hr : RgC i j s n) : EvW c env os (iRng3 ta) n (fun k => .i (.int (i + (k : Int) * s))) (fun _ => True) := fun ad σ H ok R q =>
  h ad σ H ok _ fun vs H1 e r => by
    cases r with
    | cons a r =>
      cases r with
      | cons b r =>
        cases r with
        | cons d r =>
          cases r
          cases dn_int a
          cases dn_int b
          cases dn_int d
          refine ⟨i, j, s, n, rfl, hr, q _ H1 c.fr e (ok.ext e).pin0 (up_pin0 (ok.ext e)) ⟨fun k ad' env' os' σ' H' hi o _ => hi, fun ad' env' os' σ' H' o _ => Nat.le_refl _, fun k ad' env' os' σ' H' x H'' hi o _ y => ?_⟩⟩
          obtain ⟨rfl, rfl⟩ := y
          exact ⟨Ex.refl _, Dn.int _⟩
theorem rg_step {s : Int} (h1 : 1 ≤ s) (h2 : s ≤ 7) : ∃ n : Nat, RgC (-4) 15 s n ∧ ∀ k : Nat, k < n → -4 + (k : Int) * s < 15 := by
  have h : s = 1 ∨ s = 2 ∨ s = 3 ∨ s = 4 ∨ s = 5 ∨ s = 6 ∨ s = 7 := by omega
  rcases h with rfl | rfl | rfl | rfl | rfl | rfl | rfl
  · exact ⟨19, ⟨by decide, by decide, by decide, by decide⟩, fun k hk => by omega⟩
  · exact ⟨10, ⟨by decide, by decide, by decide, by decide⟩, fun k hk => by omega⟩
  · exact ⟨7, ⟨by decide, by decide, by decide, by decide⟩, fun k hk => by omega⟩
  · exact ⟨5, ⟨by decide, by decide, by decide, by decide⟩, fun k hk => by omega⟩
  · exact ⟨4, ⟨by decide, by decide, by decide, by decide⟩, fun k hk => by omega⟩
  · exact ⟨4, ⟨by decide, by decide, by decide, by decide⟩, fun k hk => by omega⟩
  · exact ⟨3, ⟨by decide, by decide, by decide, by decide⟩, fun k hk => by omega⟩
/-- *xs in a display -/
theorem kStar {X : Cx} {K : PySem.W.Frag} {e : Expr} {es : List Expr} {te : TE} {t : TA} {p : Pos} (he : PE X e te) (hr : PA X es t) (hs : starEach (.Starred e p :: es) X.env = (true, eval e X.env) :: starEach es X.env := by rfl) (h : X.K = K := by rfl) : PA X (.Starred e p :: es) (StX.tStar K te t) := by
  subst h
  exact StX.pa_star he hr hs
section
variable {c : Cn} {env : Sy} {os : List SO} {te ta tb : TE} {tr : TA}
theorem paired_app {α β : Type} {F : α → β → Prop} {l1 : List α} {m1 : List β} {l2 : List α} {m2 : List β} (p : Paired F l1 m1) (q : Paired F l2 m2) : Paired F (l1 ++ l2) (m1 ++ m2) := by
  induction p with
  | nil => exact q
  | cons r t ih => exact .cons r ih
theorem eas_star {ss us : List SV} (h : EvI c env os te ss) (hr : EvAS c env os tr us) : EvAS c env os (StX.tStar c.K te tr) (ss ++ us) := fun ad σ H ok Q q =>
  h ad σ H ok _ fun p vs H1 e1 s1 r1 => ⟨p, vs, rfl, Or.inr s1, hr ad σ H1 (ok.ext e1) _ fun ws H2 e2 r2 => q _ H2 (e1.trans e2) (paired_app (Paired.imp r1 fun _ _ z => z.ext e2) r2)⟩
/-- xs + ys, both lists of the store -/
theorem ef_catO {k j : Nat} {ss us : List SV} (ha : EvR c env os ta k) (hk : os[k]? = some (.lst ss)) (hb : EvR c env os tb j) (hj : os[j]? = some (.lst us)) (hl : ss.length + us.length ≤ 100000) : EvF c env os (tOp rCat ta tb) (.lst (ss ++ us)) := fun ad σ H ok Q q =>
  ha.2 ad σ H ok _ fun H1 e1 => hb.2 ad σ H1 (ok.ext e1) _ fun H2 e2 => by
    have ok2 := (ok.ext e1).ext e2
    obtain ⟨_, xs, s1, r1⟩ := ok2.obj k _ hk rfl
    obtain ⟨_, ys, s2, r2⟩ := ok2.obj j _ hj rfl
    refine ⟨ad k, ad j, xs, ys, rfl, rfl, s1, s2, ?_, fun p hp => q p _ ((e1.trans e2).free hp) ((e1.trans e2).trans (Ex.new hp)) ⟨xs ++ ys, upd_same, ?_⟩⟩
    · rw [Paired.length r1, Paired.length r2]; exact Nat.le_trans hl (by decide)
    · exact Paired.imp (paired_app r1 r2) fun v s z => by
        cases s with
        | i d => exact (Dn.add hp z).ext (Ex.new hp)
        | t o => obtain ⟨b, e1, e2⟩ := z; exact ⟨b, e1, Ex.new hp _ _ e2.1, e2.2⟩
        | ob C m => exact (ObOk.add hp z).ext (Ex.new hp)
        | r k => exact z
end
end DL

set_option Elab.async false
set_option linter.all false
set_option maxRecDepth 100000
set_option maxHeartbeats 2000000
/-! The data layer: an object of the store gets another place. -/
namespace DL
open PySem PySem.Spec PyProof.Rows L2
open Evl (Ex Ex.refl Ex.trans Ex.new)
theorem Lv_move {os : List SO} {o : SO} {k j : Nat} (h : Lv (os.set k .x ++ [o]) j) : (Lv os j ∧ j ≠ k ∧ j < os.length) ∨ j = os.length := by
  rcases Lv_app h with ⟨⟨u, e, l⟩, hj⟩ | ⟨e, _⟩
  · rw [List.length_set] at hj
    refine Or.inl ?_
    by_cases q : k = j
    · subst q
      rw [List.getElem?_set_self hj] at e
      cases e; cases l
    · rw [List.getElem?_set_ne q] at e
      exact ⟨⟨u, e, l⟩, fun z => q z.symm, hj⟩
  · rw [List.length_set] at e
    exact Or.inr e
theorem Ok.move {c : Cn} {ad : Nat → Addr} {env : Sy} {os : List SO} {σ : L2.St} {H : Hp} {i k : Nat} {o : SO} (ok : Ok c ad env os σ H) (hi : env[i]? = some (some (.r k))) (hk : os[k]? = some o) (lo : o.live = true) :
    Ok c (adN ad os.length (ad k)) (env.set i (some (.r os.length))) (os.set k .x ++ [o]) σ H := by
  have lk : Lv os k := ⟨o, hk, lo⟩
  have kn : k < os.length := (List.getElem?_eq_some_iff.mp hk).1
  have len : (os.set k .x ++ [o]).length = os.length + 1 := by rw [List.length_append, List.length_set]; rfl
  have hN : ∀ a, Nof c (adN ad os.length (ad k)) (os.set k .x ++ [o]) a → Nof c ad os a := fun a h => by
    rcases h with h | ⟨j, l, e⟩
    · exact Or.inl h
    · rcases Lv_move l with ⟨l', _, hj⟩ | rfl
      · rw [adN_ne (by omega)] at e
        exact Or.inr ⟨j, l', e⟩
      · rw [adN_same] at e
        exact Or.inr ⟨k, lk, e⟩
  have hv : ∀ v s, SvOk c.K (Nof c ad os) ad os.length H v s → SvOk c.K (Nof c (adN ad os.length (ad k)) (os.set k .x ++ [o])) (adN ad os.length (ad k)) (os.set k .x ++ [o]).length H v s := fun v s h => by
    rw [len]
    exact (h.sub hN).adN
  refine ⟨by rw [List.length_set]; exact ok.len, ok.ex, ok.n0, fun j s h => ?_, fun j u h l => ?_, fun a b la lb q => ?_, fun a la => ?_, fun p hp => ?_, by rw [len]; exact Nat.le_succ_of_le ok.low⟩
  · by_cases q : i = j
    · subst q
      rw [List.getElem?_set_self (List.getElem?_eq_some_iff.mp hi).1] at h
      cases h
      obtain ⟨v, h1, h2, _⟩ := ok.val i _ hi
      exact ⟨v, h1, by rw [adN_same]; exact h2, by rw [len]; exact Nat.lt_succ_self _⟩
    · rw [List.getElem?_set_ne q] at h
      obtain ⟨v, h1, h2⟩ := ok.val j s h
      exact ⟨v, h1, hv v s h2⟩
  · rcases Lv_move ⟨u, h, l⟩ with ⟨⟨u', e', l'⟩, hne, hj⟩ | rfl
    · rw [List.getElem?_append_left (by rw [List.length_set]; exact hj), List.getElem?_set_ne (fun z => hne z.symm)] at h
      rw [adN_ne (by omega)]
      obtain ⟨h1, h2⟩ := ok.obj j u h l
      exact ⟨h1, h2.map hv fun w q => q⟩
    · rw [List.getElem?_append_right (by rw [List.length_set]; exact Nat.le_refl _), List.length_set, Nat.sub_self] at h
      cases h
      rw [adN_same]
      obtain ⟨h1, h2⟩ := ok.obj k o hk lo
      exact ⟨h1, h2.map hv fun w q => q⟩
  · rcases Lv_move la with ⟨l1, n1, j1⟩ | rfl
    · rcases Lv_move lb with ⟨l2, n2, j2⟩ | rfl
      · rw [adN_ne (by omega), adN_ne (by omega)] at q
        exact ok.inj a b l1 l2 q
      · rw [adN_ne (by omega), adN_same] at q
        exact absurd (ok.inj a k l1 lk q) n1
    · rcases Lv_move lb with ⟨l2, n2, j2⟩ | rfl
      · rw [adN_same, adN_ne (by omega)] at q
        exact absurd (ok.inj b k l2 lk q.symm) n2
      · rfl
  · rcases Lv_move la with ⟨l1, n1, j1⟩ | rfl
    · rw [adN_ne (by omega)]
      exact ok.nn a l1
    · rw [adN_same]
      exact ok.nn k lk
  · have hf := ok.frm p hp
    obtain ⟨p1, p2⟩ := p
    cases p2 with
    | i d => exact Dn.sub hN hf
    | t u => exact hf
    | ob C m => exact ObOk.sub hN hf
    | r j => exact ⟨by rw [adN_ne (by have h1 := hf.2; have h2 := ok.low; omega)]; exact hf.1, hf.2⟩
theorem gs_move {c : Cn} {env : Sy} {os : List SO} {i k : Nat} {o : SO} {t : TS} {D : Ends} (hi : env[i]? = some (some (.r k))) (hk : os[k]? = some o) (lo : o.live = true) (h : Go c (env.set i (some (.r os.length))) (os.set k .x ++ [o]) t D) : Go c env os t D := fun ad σ H ok => h _ σ H (ok.move hi hk lo)
/-- as ef_callT, an argument being a list of the store -/
theorem ef_callTW {α β : Type} [DecidableEq α] {c : Cn} {env : Sy} {os : List SO} {ek : α → List Key} {ev : β → PyData} {m : List (α × β)} {R : List PyData → List (α × β) → Prop} {E : XK} {ta : TA} {ds : List PyData} (h : EvA true c env os ta ds) (hR : R ds m) (hn : ∀ b, noList (ev b) = true) : EvF c env os (tCall (spT c.K ek ev R) [] E ta) (.dT (m.map fun p => (ek p.1, SV.i (ev p.2)))) := fun ad σ H ok Q q =>
  h ad σ H ok _ fun vs H2 e a => by
    rw [List.append_nil]
    exact ⟨Nw true c ad os, ds, m, fun b z => (ok.ext e).nof (Nw_le b z), a, hR, fun p H' ws hp e' h1 h2 => q p H' (e.free hp) (e.trans e') ⟨ws, h1, pairTi (Paired.imp h2 fun x y z => ⟨z.1, Dn.goF (fun _ _ r => r) _ _ (hn _) z.2⟩)⟩⟩
end DL

set_option Elab.async false
set_option linter.all false
set_option maxRecDepth 100000
set_option maxHeartbeats 2000000
/-! The data layer: texts. -/
namespace DL
open PySem PySem.Spec PyProof.Rows L2
open Evl (Ex Ex.refl Ex.trans Ex.new)
/-- a text by its signs -/
abbrev sT (l : List Nat) : Str := ⟨l.toArray⟩
abbrev dT (l : List Nat) : PyData := .str (sT l)
theorem sT_len (l : List Nat) : (sT l).length = l.length := by simp [sT, Str.length]
theorem sT_cps (l : List Nat) : (sT l).cps.toList = l := by simp [sT]
theorem sT_app (a b : List Nat) : sT a ++ sT b = sT (a ++ b) := TL.ext_tl (by rw [TL.tl_append])
theorem sT_inj {a b : List Nat} (h : sT a = sT b) : a = b := by
  have := congrArg (fun x : Str => x.cps.toList) h
  simpa using this
theorem sT_beq (a b : List Nat) : ((sT a == sT b : Bool)) = decide (a = b) := by
  by_cases h : a = b
  · subst h; simp
  · rw [decide_eq_false h]
    refine Bool.eq_false_iff.mpr fun z => h (sT_inj (by simpa using z))
def rMulS : R2 := fun x y H Q => ∃ (z : Str) (n : Int), x = .str z ∧ y = .int n ∧ 0 ≤ n ∧ n ≤ 1000000 ∧ z.length * n.toNat ≤ sizeLine ∧ Q (.str (sT (List.replicate n.toNat z.cps.toList).flatten)) H
theorem rep_fold (z : Array Nat) (n : Nat) : (List.replicate n z).foldl (· ++ ·) #[] = (List.replicate n z.toList).flatten.toArray := by
  have go : ∀ (n : Nat) (a : Array Nat), (List.replicate n z).foldl (· ++ ·) a = a ++ (List.replicate n z.toList).flatten.toArray := by
    intro n
    induction n with
    | zero => intro a; simp
    | succ n ih =>
      intro a
      rw [List.replicate_succ, List.foldl_cons, ih, List.replicate_succ, List.flatten_cons]
      refine Array.toList_inj.mp ?_
      simp
  simpa using go n #[]
theorem op_mulS {X : Cx} : OpR X (binaryOp .Mult) rMulS := by
  intro pins s σ H x y v u Q I rx ry h
  obtain ⟨z, n, rfl, rfl, h0, h1, hz, q⟩ := h
  obtain ⟨t, rfl⟩ := rx
  obtain ⟨t', rfl⟩ := ry
  have e : sT (List.replicate n.toNat z.cps.toList).flatten = ⟨(List.replicate n.toNat z.cps).foldl (· ++ ·) #[]⟩ := by rw [rep_fold]
  rw [e] at q
  refine PySem.P.mul_str ?_ (fun h2 h3 => ?_) (fun h2 h3 => ?_) ?_
  · have h2 : ¬ n < -(2 ^ 63 : Int) := by omega
    have h3 : ¬ n ≥ 2 ^ 63 := by omega
    rw [decide_eq_false h2, decide_eq_false h3]; rfl
  · have h4 : (z.length : Int) ≤ (2 ^ 63 - 1) / n := by
      rw [Int.le_ediv_iff_mul_le (by omega)]
      have h5 : ((z.length * n.toNat : Nat) : Int) ≤ ((sizeLine : Nat) : Int) := Int.ofNat_le.mpr hz
      rw [Int.natCast_mul, Int.toNat_of_nonneg h0] at h5
      have h6 : ((sizeLine : Nat) : Int) = 2 ^ 24 := by decide
      omega
    omega
  · unfold Builtin.Str.tooLong
    exact decide_eq_false (by omega)
  · by_cases h2 : n < 1
    · rw [if_pos h2]
      have h3 : n = 0 := by omega
      subst h3
      exact ⟨by decide, .str _, H, I.tok _, ⟨_, rfl⟩, q⟩
    · rw [if_neg h2]
      by_cases h3 : (n == 1 || z.length == 0) = true
      · rw [if_pos h3]
        refine ⟨.str _, H, I, ⟨t, ?_⟩, q⟩
        rw [← e]
        congr 1
        rw [Bool.or_eq_true] at h3
        rcases h3 with h3 | h3
        · have h4 : n = 1 := by simpa using h3
          subst h4
          exact TL.ext_tl (by simp [TL.tl])
        · have h4 : z.cps.toList = [] := by
            have : z.length = 0 := by simpa using h3
            exact List.eq_nil_of_length_eq_zero (by simpa [Str.length] using this)
          refine TL.ext_tl ?_
          show z.cps.toList = _
          rw [h4]
          simp [TL.tl]
      · rw [if_neg h3]
        refine ⟨?_, .str _, H, I.tok _, ⟨_, rfl⟩, q⟩
        rw [← e, sT_len]
        rw [List.length_flatten]
        simp only [List.map_replicate, List.sum_replicate_nat, Array.length_toList]
        rw [Nat.mul_comm]
        exact hz
section
variable {w : Bool} {c : Cn} {env : Sy} {os : List SO} {te ta tb tl : TE} {d : PyData} {tt tu : TT}
theorem ex_txt {x : Str} {l : List Nat} (h : x = sT l) : EvX w c env os (tC (.str x)) (dT l) := by subst h; exact ex_str
theorem ex_catS {r : R2} {a b : List Nat} (hr : r = (fun x y H Q => ∃ i j, x = .str i ∧ y = .str j ∧ i.length + j.length ≤ sizeLine ∧ Q (.str (i ++ j)) H)) (ha : EvX true c env os ta (dT a)) (hb : EvX true c env os tb (dT b)) (hl : a.length + b.length ≤ 16777216) : EvX w c env os (tOp r ta tb) (dT (a ++ b)) := fun ad σ H ok Q q => by
  subst hr
  refine ha ad σ H ok _ fun v H1 e1 r1 => hb ad σ H1 (ok.ext e1) _ fun u H2 e2 r2 => ⟨sT a, sT b, dn_str r1, dn_str r2, by rw [sT_len, sT_len]; exact hl, ?_⟩
  rw [sT_app]
  exact q _ H2 (e1.trans e2) (.str _)
theorem ex_repS {a : List Nat} {n : Int} (ha : EvX true c env os ta (dT a)) (hb : EvX true c env os tb (.int n)) (h0 : 0 ≤ n) (h1 : n ≤ 1000000) (hl : a.length * n.toNat ≤ 16777216) : EvX w c env os (tOp rMulS ta tb) (dT (List.replicate n.toNat a).flatten) := fun ad σ H ok Q q => by
  refine ha ad σ H ok _ fun v H1 e1 r1 => hb ad σ H1 (ok.ext e1) _ fun u H2 e2 r2 => ⟨sT a, n, dn_str r1, dn_int r2, h0, h1, by rw [sT_len]; exact hl, ?_⟩
  rw [sT_cps]
  exact q _ H2 (e1.trans e2) (.str _)
theorem ex_ixS {a : List Nat} {i : Int} {x : Nat} (ha : EvX true c env os ta (dT a)) (hb : EvX true c env os tb (.int i)) (hl : a.length ≤ 16777216) (hd : atI a i = some x) : EvX w c env os (tOp rIxS ta tb) (dT [x]) := fun ad σ H ok Q q => by
  refine ha ad σ H ok _ fun v H1 e1 r1 => hb ad σ H1 (ok.ext e1) _ fun u H2 e2 r2 => ⟨sT a, i, x, dn_str r1, dn_int r2, by rw [sT_len]; exact hl, by rw [sT_cps]; exact hd, q _ H2 (e1.trans e2) (.str _)⟩
theorem ex_lenS {r : List V → Hp → VK → Prop} {a : List Nat} (hr : r = (fun xs H Q => ∃ z, xs = [.str z] ∧ z.length ≤ sizeLine ∧ Q (.int z.length) H)) (ha : EvX true c env os ta (dT a)) (hl : a.length ≤ 16777216) : EvX w c env os (tCB r (tCons ta tNil)) (.int (a.length : Int)) := fun ad σ H ok Q q => by
  subst hr
  refine ha ad σ H ok _ fun v H1 e1 r1 => ⟨sT a, by rw [dn_str r1], by rw [sT_len]; exact hl, ?_⟩
  rw [sT_len]
  exact q _ H1 e1 (.int _)
theorem ex_inS {r : R2} {x : Nat} {a : List Nat} (hr : r = (fun x y H Q => ∃ (c : Nat) (z : Str), x = .str ⟨#[c]⟩ ∧ y = .str z ∧ Q (.bl (decide (c ∈ z.cps.toList))) H)) (ha : EvX true c env os ta (dT [x])) (hb : EvX true c env os tb (dT a)) : EvX w c env os (tOp r ta tb) (.bool (decide (x ∈ a))) := fun ad σ H ok Q q => by
  subst hr
  refine ha ad σ H ok _ fun v H1 e1 r1 => hb ad σ H1 (ok.ext e1) _ fun u H2 e2 r2 => ⟨x, sT a, dn_str r1, dn_str r2, ?_⟩
  have e : (sT a).cps.toList = a := sT_cps a
  rw [show decide (x ∈ (sT a).cps.toList) = decide (x ∈ a) by simp]
  exact q _ H2 (e1.trans e2) (.bl _)
theorem ex_eqT {a b : List Nat} (ha : EvX true c env os ta (dT a)) (hb : EvX true c env os tb (dT b)) : EvX w c env os (tOp rEq ta tb) (.bool (decide (a = b))) := EvX.is (ex_eqS ha hb) (congrArg PyData.bool (sT_beq a b))
theorem ex_neT {a b : List Nat} (ha : EvX true c env os ta (dT a)) (hb : EvX true c env os tb (dT b)) : EvX w c env os (tOp rNe ta tb) (.bool (!decide (a = b))) := EvX.is (ex_neS ha hb) (congrArg (fun z => PyData.bool (!z)) (sT_beq a b))
theorem cutS_cutG (a : List Nat) (lo hi : Option Int) : L2.cutS (sT a) lo hi = sT (cutG a lo hi) := by
  unfold L2.cutS cutG
  rw [sT_cps, sT_len]
theorem ex_slS {tl th : TO} {a : List Nat} {lo hi : Option Int} (h : EvX true c env os te (dT a)) (h1 : EvO c env os tl lo) (h2 : EvO c env os th hi) (hl : a.length ≤ 16777216) : EvX w c env os (tSl rSlS te tl th) (dT (cutG a lo hi)) := fun ad σ H ok Q q =>
  h ad σ H ok _ fun v H1 e1 r1 => h1 ad σ H1 (ok.ext e1) _ fun H2 e2 => h2 ad σ H2 ((ok.ext e1).ext e2) _ fun H3 e3 => ⟨sT a, dn_str r1, by rw [sT_len]; exact hl, by
    rw [cutS_cutG]
    exact q _ H3 ((e1.trans e2).trans e3) (.str _)⟩
/-- a text is walked -/
theorem ew_str {a : List Nat} (h : EvX true c env os te (dT a)) : EvW c env os (iStr te) a.length (fun i => .i (dT [a.getD i 0])) (fun _ => True) := fun ad σ H ok R q =>
  h ad σ H ok _ fun v H1 e r => by
    refine ⟨sT a, dn_str r, q _ H1 c.fr e (ok.ext e).pin0 (up_pin0 (ok.ext e)) ⟨fun i ad' env' os' σ' H' hi o _ => ?_, fun ad' env' os' σ' H' o _ => ?_, fun i ad' env' os' σ' H' x H'' hi o _ y => ?_⟩⟩
    · show i < (sT a).cps.size
      simpa using hi
    · show (sT a).cps.size ≤ _
      simp
    · obtain ⟨rfl, x, hx, rfl⟩ := y
      refine ⟨Ex.refl _, ?_⟩
      have hx2 : a[i]? = some x := by simpa using hx
      rw [List.getD_eq_getElem?_getD, hx2]
      exact Dn.str _
end
theorem itS_at {a : List Nat} (i : Nat) (x : Nat) (h : a[i]? = some x) : (SV.i (dT [a.getD i 0])) = .i (dT [x]) := by rw [List.getD_eq_getElem?_getD, h]; rfl
/-- a for over a text -/
theorem gs_forS {c : Cn} {env : Sy} {os : List SO} {g : TG} {tb u : TS} {D : Ends} {te : TE} {xs : List Nat} (E : List Nat → Sy) (O : List Nat → List SO) (h : EvX true c env os te (dT xs))
    (h0 : ∀ c' : Cn, c'.lo = os.length → ∀ ad σ H, Ok c' ad env os σ H → Ok c' ad (E []) (O []) σ H)
    (hs : ∀ fr, Up c (c.w fr os.length) → ∀ pre x post, xs = pre ++ x :: post → ∃ env' js, Tg (c.w fr os.length) (E pre) (O pre) g (.i (dT [x])) env' js ∧ Go (c.w fr os.length) env' (O pre) tb { D with nx := OkE (c.w fr os.length) (E (pre ++ [x])) (O (pre ++ [x])), ct := OkE (c.w fr os.length) (E (pre ++ [x])) (O (pre ++ [x])), bk := u D })
    (hd : Go c (E xs) (O xs) u D) : Go c env os (tSeq (tFor (iStr te) g tb) u) D :=
  gs_forL (e := fun x => .i (dT [x])) E O (ew_str h) rfl itS_at h0 (fun _ _ _ => True.intro) hs hd
end DL
namespace DL
open PySem PySem.Spec PyProof.Rows L2
theorem pe_cal0 {X : Cx} {k j : Nat} {ps : List Str} {sp : Sp} {x : Str} {p pos : Pos} (h : Cal X.prog X.w X.K X.mg X.base k x ps sp) (hr : Room j X.A) (hj : k ≤ j) (hg : Gl X x) (hx : Passes CX0 X E0)
    (hdb : (x == ("__debug__" : Str)) = false := by decide) : PE X (.Call (.Name x p) [] [] pos) (tCall sp [] E0 tNil) := by
  obtain ⟨f, fd, G, b, g, kp⟩ := h
  exact pe_call0 G (hr.mono hj) hg g kp b .nil hx hdb
theorem gcs {mg : Str → Option Value} {x z : Str} (h : ∃ t, mg x = some (.str z t)) : ∃ u, mg x = some u ∧ RelV (.str z) u := by
  obtain ⟨t, h⟩ := h
  exact ⟨_, h, t, rfl⟩
theorem gci {mg : Str → Option Value} {x : Str} {z : Int} (h : ∃ t, mg x = some (.int z t)) : ∃ u, mg x = some u ∧ RelV (.int z) u := by
  obtain ⟨t, h⟩ := h
  exact ⟨_, h, t, rfl⟩
theorem atI_pos {α : Type} {l : List α} {i : Int} {d : α} (h0 : 0 ≤ i) (h1 : i < (l.length : Int)) : atI l i = some (l.getD i.toNat d) := by
  have e : i = ((i.toNat : Nat) : Int) := by omega
  rw [e]
  refine atI_nat ?_
  rw [Int.toNat_natCast, List.getD_eq_getElem?_getD, List.getElem?_eq_getElem (by omega)]
  rfl
end DL
namespace DL
theorem EvW.is {c : Cn} {env : Sy} {os : List SO} {wi : L2.TI} {n n' : Nat} {it : Nat → SV} {G : List SO → Prop} (h : EvW c env os wi n it G) (e : n = n') : EvW c env os wi n' it G := e ▸ h
end DL

set_option Elab.async false
set_option linter.all false
set_option maxRecDepth 100000
set_option maxHeartbeats 2000000
/-! The data layer: methods of texts, what is in a tuple. -/
namespace DL
open PySem PySem.Spec PyProof.Rows L2
open Evl (Ex Ex.refl Ex.trans Ex.new)
/-- the parts between the signs d -/
def splitC (d : Nat) : List Nat → List (List Nat)
  | [] => [[]]
  | c :: r => if c = d then [] :: splitC d r else match splitC d r with
    | [] => [[c]]
    | p :: ps => (c :: p) :: ps
theorem splitC_hit (d : Nat) (r : List Nat) : splitC d (d :: r) = [] :: splitC d r := by show (if d = d then _ else _) = _; rw [if_pos rfl]
theorem splitC_miss {d c : Nat} {r : List Nat} {p : List Nat} {ps : List (List Nat)} (h : ¬ c = d) (e : splitC d r = p :: ps) : splitC d (c :: r) = (c :: p) :: ps := by
  show (if c = d then _ else match splitC d r with | [] => [[c]] | p :: ps => (c :: p) :: ps) = _
  rw [if_neg h, e]
theorem splitC_ne (d : Nat) : ∀ l, splitC d l ≠ []
  | [] => by simp [splitC]
  | c :: r => by
    unfold splitC
    split
    · simp
    · split <;> simp
theorem splitC_ex (d : Nat) (l : List Nat) : ∃ p ps, splitC d l = p :: ps := by
  have hn := splitC_ne d l
  cases hs : splitC d l with
  | nil => exact absurd hs hn
  | cons p ps => exact ⟨p, ps, rfl⟩
theorem spl_splitC (d : Nat) : ∀ (l acc : List Nat) (p : List Nat) (ps : List (List Nat)), splitC d l = p :: ps → TL.spl [d] 0 acc l = (acc ++ p) :: ps
  | [], acc, p, ps, e => by
    rw [TL.spl_nil]
    injection e with e1 e2
    subst e1 e2
    simp
  | c :: r, acc, p, ps, e => by
    obtain ⟨p2, ps2, e2⟩ := splitC_ex d r
    by_cases h : c = d
    · subst h
      rw [TL.spl_hit (by simp [TL.pre])]
      rw [splitC_hit] at e
      injection e with e3 e4
      subst e3 e4
      have ih := spl_splitC c r [] p2 ps2 e2
      show acc :: TL.spl [c] 0 [] r = _
      rw [ih, e2]
      simp
    · rw [TL.spl_miss (by simp [TL.pre, h])]
      rw [splitC_miss h e2] at e
      injection e with e3 e4
      subst e3 e4
      rw [spl_splitC d r (acc ++ [c]) p2 ps2 e2]
      simp
theorem split_C (l : List Nat) (d : Nat) (hd : d < 256) : Txt.split (sT l) (sT [d]) = (splitC d l).map sT := by
  have h := TL.split_spl (sT l) (sT [d]) (by simp [TL.tl]) (TL.kind_ok (by simp; omega))
  refine TL.map_tl_inj ?_
  rw [h]
  show TL.spl [d] 0 [] l = _
  obtain ⟨p, ps, hs⟩ := splitC_ex d l
  rw [spl_splitC d l [] p ps hs, hs]
  rw [List.map_map]
  have e : (TL.tl ∘ sT) = fun x : List Nat => x := by funext x; simp [TL.tl]
  rw [e, List.map_id']
  rfl
theorem splitC_len (d : Nat) : ∀ l, (splitC d l).length = 1 + l.count d
  | [] => rfl
  | c :: r => by
    have ih := splitC_len d r
    obtain ⟨p2, ps2, e2⟩ := splitC_ex d r
    by_cases h : c = d
    · subst h
      rw [splitC_hit, List.length_cons, ih, List.count_cons_self]
      omega
    · rw [splitC_miss h e2, List.count_cons_of_ne h, ← ih, e2]
      rfl
theorem cnt_count (c : Nat) : ∀ l : List Nat, cnt c l = (l.count c : Int)
  | [] => rfl
  | n :: r => by
    rw [cnt_cons, cnt_count c r]
    by_cases h : n = c
    · subst h; rw [if_pos rfl, List.count_cons_self]; push_cast; omega
    · rw [if_neg h, List.count_cons_of_ne h]; omega
section
variable {w : Bool} {c : Cn} {env : Sy} {os : List SO} {te ta tb tl : TE} {d : PyData} {tt tu : TT}
theorem strs_dn {K : PySem.W.Frag} {N : Addr → Prop} {H : Hp} : ∀ ls : List (List Nat), DnAll K N H ((ls.map sT).map V.str) (ls.map dT)
  | [] => .nil
  | l :: ls => .cons (.str _) (strs_dn ls)
/-- text.split(sign) -/
theorem ef_split {r : V → List V → Hp → VK → Prop} {l : List Nat} {x : Nat} (hr : r = (fun x xs H Q => ∃ a b, x = .str a ∧ xs = [.str b] ∧ (b.length == 0) = false ∧ a.length + 2 ≤ sizeLine ∧ rNewStrs (Txt.split a b) H Q)) (ha : EvX true c env os ta (dT l)) (hb : EvX true c env os tb (dT [x])) (hx : x < 256) (hl : l.length ≤ 100000) :
    EvF c env os (tM1 r ta tb) (.lst (((splitC x l).map dT).map SV.i)) := fun ad σ H ok Q q => by
  subst hr
  refine ha ad σ H ok _ fun v H1 e1 r1 => ⟨⟨_, dn_str r1⟩, hb ad σ H1 (ok.ext e1) _ fun u H2 e2 r2 => ⟨sT l, sT [x], dn_str r1, by rw [dn_str r2], rfl, by rw [sT_len]; exact Nat.le_trans (Nat.add_le_add_right hl 2) (by decide), fun p hp => ?_⟩⟩
  rw [split_C l x hx]
  refine q p _ (e1.free (e2.free hp)) ((e1.trans e2).trans (Ex.new hp)) ⟨_, upd_same, ?_⟩
  exact dn_paired (strs_dn _)
/-- text.count(sign) -/
theorem ex_countS {r : V → List V → Hp → VK → Prop} {l : List Nat} {x : Nat} (hr : r = (fun x xs H Q => ∃ a b, x = .str a ∧ xs = [.str b] ∧ Q (.int (Txt.count a b)) H)) (ha : EvX true c env os ta (dT l)) (hb : EvX true c env os tb (dT [x])) : EvX w c env os (tM1 r ta tb) (.int (l.count x : Int)) := fun ad σ H ok Q q => by
  subst hr
  refine ha ad σ H ok _ fun v H1 e1 r1 => ⟨⟨_, dn_str r1⟩, hb ad σ H1 (ok.ext e1) _ fun u H2 e2 r2 => ⟨sT l, sT [x], dn_str r1, by rw [dn_str r2], ?_⟩⟩
  have e : Txt.count (sT l) (sT [x]) = (l.count x : Int) := by
    have h := count_is (sT l) x
    rw [← cnt_count]
    rw [show (sT [x]) = (⟨#[x]⟩ : Str) from rfl, h]
    show cnt x (sT l).cps.toList = _
    rw [sT_cps]
  rw [e]
  exact q _ H2 (e1.trans e2) (.int _)
end
theorem kInSeq {X : Cx} {K : PySem.W.Frag} (h : X.K = K := by rfl) : OpR X (compareOp .In) (rIn K false) := by subst h; exact op_in_seq
theorem kNotInSeq {X : Cx} {K : PySem.W.Frag} (h : X.K = K := by rfl) : OpR X (compareOp .NotIn) (rIn K true) := by subst h; exact op_notIn_seq
/-- texts as values -/
def txV (ls : List (List Nat)) : List V := ls.map fun l => V.str (sT l)
theorem txs_of {K : PySem.W.Frag} {N : Addr → Prop} {H : Hp} : ∀ {vs : List V} {ls : List (List Nat)}, DnAll K N H vs (ls.map dT) → vs = txV ls
  | _, [], h => by cases h; rfl
  | _, l :: ls, h => by
    cases h with
    | cons a b => rw [txs_of b, dn_str a]; rfl
theorem txV_flat (ls : List (List Nat)) : (txV ls).all flatV = true := by
  unfold txV
  rw [List.all_map]
  exact List.all_eq_true.mpr fun _ _ => rfl
theorem inV_txV (l : List Nat) (ls : List (List Nat)) : inV (.str (sT l)) (txV ls) = decide (l ∈ ls) := by
  unfold inV txV
  rw [List.any_map]
  by_cases h : l ∈ ls
  · rw [decide_eq_true h]
    exact List.any_eq_true.mpr ⟨l, h, by simp [eqV]⟩
  · rw [decide_eq_false h]
    refine Bool.eq_false_iff.mpr fun z => h ?_
    obtain ⟨y, hy, e⟩ := List.any_eq_true.mp z
    have e2 : sT y = sT l := by simpa [eqV] using e
    rw [← sT_inj e2]
    exact hy
section
variable {w : Bool} {c : Cn} {env : Sy} {os : List SO} {te ta tb tl : TE} {d : PyData} {tt tu : TT}
/-- text in (text, ..) -/
theorem ex_inTt {l : List Nat} {ls : List (List Nat)} (ha : EvX true c env os ta (dT l)) (hb : EvX true c env os tb (.tuple (ls.map dT))) : EvX w c env os (tOp (rIn c.K false) ta tb) (.bool (decide (l ∈ ls))) := fun ad σ H ok Q q =>
  ha ad σ H ok _ fun v H1 e1 r1 => hb ad σ H1 (ok.ext e1) _ fun u H2 e2 r2 => by
    obtain ⟨a, xs, rfl, hs, hx⟩ := dn_tup_ref r2
    rw [txs_of hx] at hs
    refine ⟨a, txV ls, rfl, Or.inr hs, by rw [dn_str r1]; rfl, txV_flat ls, ?_⟩
    rw [dn_str r1]
    show Q (.bl (inV (.str (sT l)) (txV ls))) H2
    rw [inV_txV]
    exact q _ H2 (e1.trans e2) (.bl _)
theorem ex_notinTt {l : List Nat} {ls : List (List Nat)} (ha : EvX true c env os ta (dT l)) (hb : EvX true c env os tb (.tuple (ls.map dT))) : EvX w c env os (tOp (rIn c.K true) ta tb) (.bool (!decide (l ∈ ls))) := fun ad σ H ok Q q =>
  ha ad σ H ok _ fun v H1 e1 r1 => hb ad σ H1 (ok.ext e1) _ fun u H2 e2 r2 => by
    obtain ⟨a, xs, rfl, hs, hx⟩ := dn_tup_ref r2
    rw [txs_of hx] at hs
    refine ⟨a, txV ls, rfl, Or.inr hs, by rw [dn_str r1]; rfl, txV_flat ls, ?_⟩
    rw [dn_str r1]
    show Q (.bl (!inV (.str (sT l)) (txV ls))) H2
    rw [inV_txV]
    exact q _ H2 (e1.trans e2) (.bl _)
theorem ex_notinS {r : R2} {x : Nat} {a : List Nat} (hr : r = (fun x y H Q => ∃ (c : Nat) (z : Str), x = .str ⟨#[c]⟩ ∧ y = .str z ∧ Q (.bl (!decide (c ∈ z.cps.toList))) H)) (ha : EvX true c env os ta (dT [x])) (hb : EvX true c env os tb (dT a)) : EvX w c env os (tOp r ta tb) (.bool (!decide (x ∈ a))) := fun ad σ H ok Q q => by
  subst hr
  refine ha ad σ H ok _ fun v H1 e1 r1 => hb ad σ H1 (ok.ext e1) _ fun u H2 e2 r2 => ⟨x, sT a, dn_str r1, dn_str r2, ?_⟩
  rw [show decide (x ∈ (sT a).cps.toList) = decide (x ∈ a) by simp]
  exact q _ H2 (e1.trans e2) (.bl _)
/-- text in [text, ..] -/
theorem ex_inLt {l : List Nat} {ls : List (List Nat)} (ha : EvX true c env os ta (dT l)) (hb : EvI c env os tb ((ls.map dT).map SV.i)) : EvX w c env os (tOp (rIn c.K false) ta tb) (.bool (decide (l ∈ ls))) := fun ad σ H ok Q q =>
  ha ad σ H ok _ fun v H1 e1 r1 => hb ad σ H1 (ok.ext e1) _ fun p vs H2 e2 hs hx => by
    rw [txs_of (paired_dn hx)] at hs
    refine ⟨p, txV ls, rfl, Or.inl hs, by rw [dn_str r1]; rfl, txV_flat ls, ?_⟩
    rw [dn_str r1]
    show Q (.bl (inV (.str (sT l)) (txV ls))) H2
    rw [inV_txV]
    exact q _ H2 (e1.trans e2) (.bl _)
end
theorem cutG_mid {α : Type} (xs : List α) (a b : Nat) (h : b ≤ xs.length) : cutG xs (some (a : Int)) (some (b : Int)) = (xs.drop a).take (b - a) := by
  unfold cutG
  rw [HT.sIx_nat, HT.sIx_nat, Nat.min_eq_left h]
  by_cases h2 : a ≤ xs.length
  · rw [Nat.min_eq_left h2]
  · rw [Nat.min_eq_right (by omega)]
    simp [List.drop_of_length_le (show xs.length ≤ a by omega)]
end DL
namespace DL
open PySem PySem.Spec PyProof.Rows L2
open Evl (Ex Ex.refl Ex.trans Ex.new)
theorem Paired.app {α β : Type} {F : α → β → Prop} : ∀ {l₁ m₁ : List α} {l₂ m₂ : List β}, Paired F l₁ l₂ → Paired F m₁ m₂ → Paired F (l₁ ++ m₁) (l₂ ++ m₂)
  | _, _, _, _, .nil, h => h
  | _, _, _, _, .cons r t, h => .cons r (Paired.app t h)
theorem kOrT {X : Cx} {K : PySem.W.Frag} {a b : Expr} {rest : List Expr} {ta tb : TE} {pos : Pos} (ha : PE X a ta) (hb : PE X (.BoolOp .Or (b :: rest) pos) tb) (hk : X.K = K := by rfl) : PE X (.BoolOp .Or (a :: b :: rest) pos) (tOrT K ta tb) := by subst hk; exact pe_orT ha hb
section
variable {w : Bool} {c : Cn} {env : Sy} {os : List SO} {te ta tb tl : TE} {d : PyData} {tt tu : TT} {u : TS} {D : Ends}
/-- xs or ys, new lists -/
theorem ef_orL {ss us : List SV} (ha : EvF c env os ta (.lst ss)) (hb : ss = [] → EvF c env os tb (.lst us)) : EvF c env os (tOrT c.K ta tb) (.lst (if ss = [] then us else ss)) := fun ad σ H ok Q q =>
  ha ad σ H ok _ fun p H1 hp e1 r => by
    obtain ⟨vs, hvs, pvs⟩ := r
    have hl : vs.length = ss.length := Paired.length pvs
    refine ⟨!vs.isEmpty, Or.inl ⟨vs, SqL.of hvs, rfl⟩, ?_⟩
    by_cases h : ss = []
    · have hv : vs = [] := List.eq_nil_of_length_eq_zero (by rw [hl, h]; rfl)
      rw [hv, if_neg (by decide)]
      refine hb h ad σ H1 (ok.ext e1) Q fun p2 H2 hp2 e2 r2 => q p2 H2 (e1.free hp2) (e1.trans e2) ?_
      rw [if_pos h]
      exact r2
    · have hv : (!vs.isEmpty) = true := by
        cases vs with
        | nil => exact absurd (List.eq_nil_of_length_eq_zero (by rw [← hl]; rfl)) h
        | cons a b => rfl
      rw [hv, if_pos rfl]
      refine q p H1 hp e1 ?_
      rw [if_neg h]
      exact ⟨vs, hvs, pvs⟩
/-- xs.extend(new list) -/
theorem gs_extF {k : Nat} {ss us : List SV} (hl : EvR c env os tl k) (hk : os[k]? = some (.lst ss)) (h : EvF c env os te (.lst us)) (hz : ss.length + us.length ≤ 100000) (kk : Go c env (os.set k (.lst (ss ++ us))) u D) : Go c env os (tSeq (tDrop (tBM c.K "list" rExtend tl (tCons te tNil))) u) D := fun ad σ H ok =>
  hl.2 ad σ H ok _ fun H1 e1 => by
    have ok1 := ok.ext e1
    obtain ⟨_, vs, hvs, pv⟩ := ok1.obj k _ hk rfl
    refine ⟨Or.inl ⟨rfl, vs, SqL.of hvs⟩, ?_⟩
    refine h ad σ H1 ok1 _ fun p H2 hp e2 r => ?_
    obtain ⟨ws, hws, pws⟩ := r
    have ok2 := ok1.ext e2
    have hv2 := e2 _ _ hvs
    refine ⟨ad k, p, vs, ws, rfl, rfl, hv2, hws, ?_, ?_⟩
    · rw [Paired.length pv, Paired.length pws]
      exact Nat.le_trans hz (by decide)
    refine kk ad σ _ (ok2.mut hk rfl rfl ⟨vs ++ ws, upd_same, ?_⟩)
    have hN : Nof c ad os (ad k) := Or.inr ⟨k, ⟨_, hk, rfl⟩, rfl⟩
    exact Paired.app (Paired.imp pv fun _ _ z => (z.ext e2).mut hv2 rfl hN) (Paired.imp pws fun _ _ z => (z.sub fun a y => Or.inl y).mut hv2 rfl hN)
end
theorem ixN_last (n : Nat) : ixN (n + 1) (-1) = some n := by
  unfold ixN
  have h : ¬ (0 : Int) ≤ -1 := by decide
  rw [if_neg h, if_pos (by omega)]
  have e : ((-1 : Int) + ((n + 1 : Nat) : Int)).toNat = n := by omega
  rw [e]
end DL
namespace DL
open PySem PySem.Spec PyProof.Rows L2
open Evl (Ex Ex.refl Ex.trans Ex.new)
/-- a for that may be left by return: P holds as long as it goes on -/
theorem gs_forP {c : Cn} {env : Sy} {os : List SO} {g : TG} {tb u : TS} {D : Ends} {wi : TI} {n : Nat} {it : Nat → SV} {G : List SO → Prop} (P : Nat → Prop) (E : Nat → Sy) (O : Nat → List SO) (hw : EvW c env os wi n it G)
    (h0 : ∀ c' : Cn, c'.lo = os.length → ∀ ad σ H, Ok c' ad env os σ H → Ok c' ad (E 0) (O 0) σ H) (p0 : P 0) (hG : ∀ i, i ≤ n → G (O i))
    (hs : ∀ fr, Up c (c.w fr os.length) → ∀ i, i < n → P i → ∃ env' js, Tg (c.w fr os.length) (E i) (O i) g (it i) env' js ∧ Go (c.w fr os.length) env' (O i) tb { D with nx := fun σ H => P (i + 1) ∧ OkE (c.w fr os.length) (E (i + 1)) (O (i + 1)) σ H, ct := fun σ H => P (i + 1) ∧ OkE (c.w fr os.length) (E (i + 1)) (O (i + 1)) σ H, bk := u D })
    (hd : P n → Go c (E n) (O n) u D) : Go c env os (tSeq (tFor wi g tb) u) D := fun ad σ H ok => by
  refine hw ad σ H ok _ fun J H1 fr e ok1 up W => ?_
  refine ⟨fun i m σ H => m = n - i ∧ i ≤ n ∧ P i ∧ OkE (c.w fr os.length) (E i) (O i) σ H, ⟨n, by simp, Nat.zero_le _, p0, ad, h0 _ rfl ad σ H1 ok1⟩, ?_⟩
  rintro i m σ H ⟨rfl, hi, hp, ad', ok'⟩
  by_cases hlt : i < n
  · refine .inr ⟨W.goes i _ _ _ _ _ hlt ok' (hG i hi), fun σ H => P (i + 1) ∧ OkE (c.w fr os.length) (E (i + 1)) (O (i + 1)) σ H, fun σ' H' p' => ⟨n - (i + 1), by omega, rfl, hlt, p'⟩, fun x H' y => ?_⟩
    obtain ⟨e2, r⟩ := W.yields i _ _ _ _ _ x H' hlt ok' (hG i hi) y
    obtain ⟨env', js, ht, hb⟩ := hs fr up i hlt hp
    exact ht ad' σ H' x (ok'.ext e2) r _ fun σ2 ok2 _ => hb ad' σ2 H' ok2
  · have q : i = n := by omega
    subst q
    exact .inl ⟨W.stops _ _ _ _ _ ok' (hG i hi), hd hp ad' σ H (up _ _ _ _ _ ok')⟩
theorem gs_nxP {c : Cn} {env : Sy} {os : List SO} {D : Ends} {P : Prop} {X Y : L2.St → Hp → Prop} (hp : P) (h : Go c env os tNext { D with nx := X, ct := Y }) : Go c env os tNext { D with nx := fun σ H => P ∧ X σ H, ct := fun σ H => P ∧ Y σ H } := fun ad σ H ok => ⟨hp, h ad σ H ok⟩
end DL

set_option Elab.async false
set_option linter.all false
set_option maxRecDepth 100000
set_option maxHeartbeats 2000000
/-! The data layer: strip, partition, find of texts. -/
namespace DL
open PySem PySem.Spec PyProof.Rows L2
open Evl (Ex Ex.refl Ex.trans Ex.new)
/-- the part ahead of the first d -/
def upC (d : Nat) (l : List Nat) : List Nat := l.takeWhile fun c => !decide (c = d)
theorem upC_cons (d c : Nat) (l : List Nat) : upC d (c :: l) = if c = d then [] else c :: upC d l := by
  unfold upC
  rw [List.takeWhile_cons]
  by_cases h : c = d <;> simp [h]
theorem upC_none (d : Nat) : ∀ l : List Nat, d ∉ l → upC d l = l
  | [], _ => rfl
  | c :: l, h => by
    rw [upC_cons, if_neg (fun z => h (by rw [z]; simp)), upC_none d l (fun z => h (List.mem_cons_of_mem _ z))]
theorem upC_pre (d : Nat) : ∀ (l r : List Nat), d ∉ l → upC d (l ++ d :: r) = l
  | [], r, _ => by rw [List.nil_append, upC_cons, if_pos rfl]
  | c :: l, r, h => by
    rw [List.cons_append, upC_cons, if_neg (fun z => h (by rw [z]; simp)), upC_pre d l r (fun z => h (List.mem_cons_of_mem _ z))]
theorem upC_le (d : Nat) (l : List Nat) : (upC d l).length ≤ l.length := (List.takeWhile_sublist _).length_le
theorem par_upC (d : Nat) : ∀ (l acc : List Nat), (∃ b, TL.par [d] acc l = some (acc ++ upC d l, b)) ∨ (TL.par [d] acc l = none ∧ d ∉ l)
  | [], acc => Or.inr ⟨rfl, by simp⟩
  | c :: r, acc => by
    by_cases h : c = d
    · subst h
      refine Or.inl ⟨(c :: r).drop ([c] : List Nat).length, ?_⟩
      rw [TL.par_hit (by simp [TL.pre]), upC_cons, if_pos rfl, List.append_nil]
    · rw [TL.par_miss (by simp [TL.pre, h]), upC_cons, if_neg h]
      rcases par_upC d r (acc ++ [c]) with ⟨b, e⟩ | ⟨e, n⟩
      · exact Or.inl ⟨b, by rw [e]; simp⟩
      · exact Or.inr ⟨e, fun z => (List.mem_cons.mp z).elim (fun y => h y.symm) n⟩
theorem partition_up (l : List Nat) (d : Nat) : ∃ b c : Str, Txt.partition (sT l) (sT [d]) = (sT (upC d l), b, c) := by
  rw [TL.partition_par (sT l) (sT [d]) (by simp [TL.tl])]
  show ∃ b c, (match TL.par [d] [] l with | some (a, b) => ((⟨a.toArray⟩ : Str), sT [d], (⟨b.toArray⟩ : Str)) | none => (sT l, Str.empty, Str.empty)) = (sT (upC d l), b, c)
  rcases par_upC d l [] with ⟨b, e⟩ | ⟨e, n⟩
  · rw [e]; exact ⟨_, _, rfl⟩
  · rw [e, upC_none d l n]; exact ⟨_, _, rfl⟩
/-- strip(sign) -/
def stripL (d : Nat) (l : List Nat) : List Nat := (Txt.stripChars (sT l) (sT [d])).cps.toList
theorem stripL_sT (d : Nat) (l : List Nat) : Txt.stripChars (sT l) (sT [d]) = sT (stripL d l) := by unfold stripL; exact TL.ext_tl rfl
theorem stripL_nil (d : Nat) (l : List Nat) : stripL d l = [] ↔ ∀ c ∈ l, c = d := by
  unfold stripL Txt.stripChars
  rw [stripBy_eq]
  generalize hg : (sT [d]).cps.contains = g
  have gd : ∀ c, g c = decide (c = d) := fun c => by
    rw [← hg]
    by_cases h : c = d
    · subst h; simp
    · simp [h]
  have hx : (sT l).length = l.length := sT_len l
  have hgl : ∀ k, (sT l).cps.getD k 0 = l.getD k 0 := fun k => by rw [← getD_list, sT_cps]
  obtain ⟨h1, h2, h3⟩ := lo_facts g (sT l)
  obtain ⟨k1, k2, k3, k4⟩ := hi_facts g (sT l) _ h1
  generalize stripLo g true (sT l) = lo at *
  generalize stripHi g true (sT l) lo = hi at *
  have es : (Builtin.Str.strSub (sT l) lo hi).cps.toList = (l.drop lo).take (hi - lo) := by
    have := TL.tl_strSub (sT l) lo hi
    rw [show TL.tl (sT l) = l from sT_cps l] at this
    exact this
  rw [es]
  constructor
  · intro z c hc
    have hlen : hi - lo = 0 ∨ l.length ≤ lo := by
      have := congrArg List.length z
      rw [List.length_take, List.length_drop] at this
      simp at this
      omega
    obtain ⟨i, hi', e⟩ := List.mem_iff_getElem.mp hc
    have eg : l.getD i 0 = c := by rw [List.getD_eq_getElem?_getD, List.getElem?_eq_getElem hi', e]; rfl
    have key : g ((sT l).cps.getD i 0) = true := by
      by_cases hlo : i < lo
      · exact h2 i hlo
      · exact k3 i (by omega) (by omega)
    rw [hgl, eg, gd] at key
    simpa using key
  · intro z
    have all : ∀ k, k < l.length → g ((sT l).cps.getD k 0) = true := fun k hk => by
      rw [hgl, gd]
      refine decide_eq_true (z _ ?_)
      rw [List.getD_eq_getElem?_getD, List.getElem?_eq_getElem hk]
      exact List.getElem_mem hk
    have hlo : lo = l.length := by
      rcases h3 with y | y
      · omega
      · by_cases hlt : lo < l.length
        · rw [all lo hlt] at y; cases y
        · omega
    rw [hlo]
    simp
/-- find(sign, at) -/
theorem find3_up (l : List Nat) (d a : Nat) (h : a ≤ l.length) : Txt.find3 (sT l) ⟨#[d]⟩ (a : Int) = if a + (upC d (l.drop a)).length < l.length then ((a + (upC d (l.drop a)).length : Nat) : Int) else -1 := by
  have hx : (sT l).length = l.length := sT_len l
  have hgl : ∀ k, (sT l).cps.getD k 0 = l.getD k 0 := fun k => by rw [← getD_list, sT_cps]
  have hf : fromIndex (sT l).length (a : Int) = a := by unfold fromIndex; rw [if_neg (by omega)]; omega
  have spec := StrLaws.find3_spec (sT l) d (a : Int)
  rw [hf, hx] at spec
  rcases spec with ⟨e, hn⟩ | ⟨k, e, k1, k2, k3, hn⟩
  · have hnm : d ∉ l.drop a := fun z => by
      obtain ⟨i, hi, e2⟩ := List.mem_iff_getElem.mp z
      rw [List.length_drop] at hi
      refine hn (a + i) (by omega) (by omega) ?_
      rw [hgl, List.getD_eq_getElem?_getD, ← List.getElem?_drop, List.getElem?_eq_getElem (by rw [List.length_drop]; exact hi), e2]
      rfl
    rw [e, upC_none d _ hnm, List.length_drop, if_neg (by omega)]
  · rw [hgl] at k3
    have hk : l[k]? = some d := by
      rw [List.getD_eq_getElem?_getD, List.getElem?_eq_getElem k2] at k3
      rw [List.getElem?_eq_getElem k2]
      exact congrArg some k3
    have hpre : d ∉ (l.drop a).take (k - a) := fun z => by
      obtain ⟨i, hi, e2⟩ := List.mem_iff_getElem.mp z
      have hi2 : i < k - a := by rw [List.length_take] at hi; omega
      have e3 : ((l.drop a).take (k - a))[i]? = some d := by rw [List.getElem?_eq_getElem hi, e2]
      rw [List.getElem?_take_of_lt hi2, List.getElem?_drop] at e3
      refine hn (a + i) (by omega) (by omega) ?_
      rw [hgl, List.getD_eq_getElem?_getD, e3]
      rfl
    have hsp : l.drop a = (l.drop a).take (k - a) ++ d :: l.drop (k + 1) := by
      conv => lhs; rw [← List.take_append_drop (k - a) (l.drop a)]
      rw [List.drop_drop, show a + (k - a) = k by omega, List.drop_eq_getElem_cons k2]
      congr 2
      rw [List.getElem?_eq_getElem k2] at hk
      injection hk
    have hu : upC d (l.drop a) = (l.drop a).take (k - a) := by
      conv => lhs; rw [hsp]
      exact upC_pre d _ _ hpre
    have hlen : ((l.drop a).take (k - a)).length = k - a := by rw [List.length_take, List.length_drop]; omega
    rw [e, hu, hlen, show a + (k - a) = k by omega, if_pos k2]
section
variable {w : Bool} {c : Cn} {env : Sy} {os : List SO} {te ta tb tl : TE} {d : PyData} {tt tu : TT}
/-- text.partition(sign)[0] -/
theorem ex_part0 {r : V → List V → Hp → VK → Prop} {l : List Nat} {x : Nat} (hr : r = (fun x xs H Q => ∃ a b, x = .str a ∧ xs = [.str b] ∧ (b.length == 0) = false ∧ a.length ≤ sizeLine ∧ ∀ p, H p = none → Q (.ref p) (upd H p (.tup [.str (Txt.partition a b).1, .str (Txt.partition a b).2.1, .str (Txt.partition a b).2.2])))) (ha : EvX true c env os ta (dT l)) (hb : EvX true c env os tb (dT [x])) (hl : l.length ≤ 100000) :
    EvX w c env os (tOp (rIxT c.K) (tM1 r ta tb) (tC (.int 0))) (dT (upC x l)) := fun ad σ H ok Q q => by
  subst hr
  refine ha ad σ H ok _ fun v H1 e1 r1 => ⟨⟨_, dn_str r1⟩, hb ad σ H1 (ok.ext e1) _ fun u H2 e2 r2 => ⟨sT l, sT [x], dn_str r1, by rw [dn_str r2], rfl, by rw [sT_len]; exact Nat.le_trans hl (by decide), fun p hp => ?_⟩⟩
  obtain ⟨b, cc, e⟩ := partition_up l x
  rw [e]
  refine ⟨p, _, 0, .str (sT (upC x l)), rfl, rfl, Or.inl (Or.inl upd_same), rfl, ?_⟩
  exact q _ _ ((e1.trans e2).trans (Ex.new hp)) (.str _)
/-- text.strip(sign) -/
theorem ex_strip {r : V → List V → Hp → VK → Prop} {l : List Nat} {x : Nat} (hr : r = (fun x xs H Q => ∃ a b, x = .str a ∧ xs = [.str b] ∧ a.length ≤ sizeLine ∧ Q (.str (Txt.stripChars a b)) H)) (ha : EvX true c env os ta (dT l)) (hb : EvX true c env os tb (dT [x])) (hl : l.length ≤ 100000) : EvX w c env os (tM1 r ta tb) (dT (stripL x l)) := fun ad σ H ok Q q => by
  subst hr
  refine ha ad σ H ok _ fun v H1 e1 r1 => ⟨⟨_, dn_str r1⟩, hb ad σ H1 (ok.ext e1) _ fun u H2 e2 r2 => ⟨sT l, sT [x], dn_str r1, by rw [dn_str r2], by rw [sT_len]; exact Nat.le_trans hl (by decide), ?_⟩⟩
  rw [stripL_sT]
  exact q _ H2 (e1.trans e2) (.str _)
/-- text.find(sign, at) -/
theorem ex_find3 {r : V → List V → Hp → VK → Prop} {l : List Nat} {x a : Nat} (hr : r = (fun x xs H Q => ∃ (a b : Str) (i : Int), x = .str a ∧ xs = [.str b, .int i] ∧ Q (.int (Txt.find3 a b i)) H)) (ha : EvX true c env os ta (dT l)) (hb : EvX true c env os tb (dT [x])) (hi : EvX true c env os te (.int (a : Int))) (hl : a ≤ l.length) : EvX w c env os (tBM c.K "str" r ta (tCons tb (tCons te tNil))) (.int (if a + (upC x (l.drop a)).length < l.length then ((a + (upC x (l.drop a)).length : Nat) : Int) else -1)) := fun ad σ H ok Q q => by
  subst hr
  refine ha ad σ H ok _ fun v H1 e1 r1 => ⟨by rw [dn_str r1]; rfl, hb ad σ H1 (ok.ext e1) _ fun u H2 e2 r2 => hi ad σ H2 ((ok.ext e1).ext e2) _ fun z H3 e3 r3 => ⟨sT l, sT [x], (a : Int), dn_str r1, by rw [dn_str r2, dn_int r3], ?_⟩⟩
  rw [show (sT [x]) = (⟨#[x]⟩ : Str) from rfl, find3_up l x a hl]
  exact q _ H3 ((e1.trans e2).trans e3) (.int _)
end
end DL

set_option Elab.async false
set_option linter.all false
set_option maxRecDepth 100000
set_option maxHeartbeats 2000000
/-! The data layer: keywords, written dicts, divmod. -/
namespace DL
open PySem PySem.Spec PyProof.Rows L2
open Evl (Ex Ex.refl Ex.trans Ex.new)
/-! ### defs with keyword-only parameters -/
abbrev FnQ (K : PySem.W.Frag) (x : Str) (st : Stmt) (kws : List (Str × V)) (f : Addr) (fd : FuncData) : Prop := FunD K x x (defArgs st) (defBody st) (defScope st) [] kws f fd
/-- a form of call: how many values by place, the names, what fills up -/
abbrev CForm := Nat × List Str × List (Str × V)
def FormOk (K : PySem.W.Frag) (fd : FuncData) (ps : List Str) (F : CForm) : Prop := ∃ ds, KBn K fd ps F.1 F.2.1 (fun us ws => us ++ (ws ++ ds)) (fun vs zs => vs ++ (zs ++ F.2.2.map (·.2)))
def CalQ (P : Program) (w : World) (K : PySem.W.Frag) (mg : Str → Option Value) (base : Heap) (k : Nat) (x : Str) (ps : List Str) (sp : Sp) (fs : List CForm) : Prop :=
  ∃ f fd, FnOk P w K mg base CX0 k f fd ps sp ∧ (∀ F ∈ fs, FormOk K fd ps F) ∧ mg x = some (.ref f) ∧ PySem.W.keepIn K (.ref f) = true
section
variable {P : Program} {w : World} {K : PySem.W.Frag} {mg : Str → Option Value} {base : Heap}
theorem form_mk {x qual : Str} {params : Arguments} {body : List Stmt} {scope : Scope} {kws : List (Str × V)} {f : Addr} {fd : FuncData} {ps : List Str} (F : FunD K x qual params body scope [] kws f fd) (n : Nat) (ks : List Str) (ms : List (Str × V)) (hk : kws ≠ []) (hms : ∀ q ∈ ms, q ∈ kws)
    (h : ∀ (D : Addr) (doc pm : Value) (an : Option Addr) (cdv ct : Value) (us mv ws : List Value), us.length = n → mv.length = ms.length → ws.length = ks.length →
      KwChain D ((ms.map (·.1)).zip mv) (bindArgs (PySem.W.fnOf x qual params body scope .none (.ref D) doc pm an cdv ct) ⟨us, ks.zip ws⟩) (ps.zip (us ++ (ws ++ mv)))) : FormOk K fd ps (n, ks, ms) := by
  obtain ⟨oc, od, dV, kV, doc, pm, an, cdv, ct, osl, rfl, lk, hcd, hD, hK⟩ := F.ex
  rcases hD with ⟨_, rfl⟩ | ⟨e, _⟩
  · rcases hK with e | ⟨D, rfl, hq⟩
    · exact absurd e hk
    · obtain ⟨mv, hl, rk, hks⟩ := kwd_vals (ms := ms) fun q hm => hq q (hms q hm)
      exact ⟨mv, ⟨fun s us ws X l1 l2 => BindsTo.of_looks fun M => KwChain.looks X hks (h D doc pm an cdv ct us mv ws l1 hl l2), fun r1 r2 => r1.append (r2.append rk)⟩⟩
  · exact absurd rfl e
theorem cal_mkQ {x : Str} {st : Stmt} {f : Addr} {fd : FuncData} {N ps : List Str} {k : Nat} {sp : Sp} {kws : List (Str × V)} {fs : List CForm} (F : FnQ K x st kws f fd) (S : FnScope N ps (defScope st)) (g : mg x = some (.ref f)) (len : ∀ vs H Q E, sp vs H Q E → vs.length = ps.length)
    (hf : ∀ F ∈ fs, FormOk K fd ps F)
    (hbody : ∀ (cdv : Value) (A : Around) (outer : List Env) (s : Shared) (H : Hp) (vs : List V) (Q : VK) (E : XK), Room k (A.deeper (envOfC x (defScope st) s.heap.objs.size f cdv)) → sp vs H Q E →
      ∃ t, PSs (cxOf CX0 P w K mg base N x (defScope st) f cdv A outer s H E).nox (defBody st) t ∧ t (De Q) (L2.start N vs) H) : CalQ P w K mg base (k + 1) x ps sp fs :=
  ⟨f, fd, F.ok S len fun cdv A outer s H vs Q E hr h => let ⟨t, a, b⟩ := hbody cdv A outer s H vs Q E hr h; ⟨t, a.nox, b⟩, hf, g, F.kp⟩
end
theorem pe_calQ {X : Cx} {k j : Nat} {ps : List Str} {sp : Sp} {x : Str} {p pos : Pos} {e : Expr} {es : List Expr} {kws : List Keyword} {t tk : TA} {fs : List CForm} {n : Nat} {ks : List Str} {ms : List (Str × V)} (h : CalQ X.prog X.w X.K X.mg X.base k x ps sp fs) (hF : (n, ks, ms) ∈ fs) (hr : Room j X.A) (hj : k ≤ j) (hg : Gl X x) (hx : Passes CX0 X E0)
    (ha : PA X (e :: es) t) (hkw : PK X kws tk) (hall : (backToKw pos (keywordEach kws X.env)).all (·.1.isSome) = true := by rfl) (hks : (backToKw pos (keywordEach kws X.env)).filterMap (·.1) = ks := by rfl)
    (hdb : (x == ("__debug__" : Str)) = false := by decide) (he : starEach (e :: es) X.env = (false, eval e X.env) :: starEach es X.env := by rfl)
    (hpl : ((backTo pos (starEach (e :: es) X.env)).any (·.1) || (backToKw pos (keywordEach kws X.env)).any (·.1.isNone)) = false := by rfl) :
    PE X (.Call (.Name x p) (e :: es) kws pos) (tCallN n ks.length sp (fun vs zs => vs ++ (zs ++ ms.map (·.2))) E0 t tk) := by
  obtain ⟨f, fd, G, b, g, kp⟩ := h
  obtain ⟨ds, hb⟩ := b _ hF
  exact pe_callN G (hr.mono hj) hg g kp hb hx ha hkw hall hks hdb he hpl
section
variable {w : Bool} {c : Cn} {env : Sy} {os : List SO} {te ta tb tl : TE} {d : PyData} {tt tu : TT} {t tk : TA}
theorem ex_callQ {R : List PyData → PyData → Prop} {E : XK} {n m : Nat} {dv : List V} {ds es dd : List PyData} (h : EvA w c env os t ds) (hk : EvA w c env os tk es) (hd : ∀ N H, DnAll c.K N H dv dd) (l1 : ds.length = n) (l2 : es.length = m) (hR : R (ds ++ (es ++ dd)) d) : EvX w c env os (tCallN n m (spD c.K R) (fun vs zs => vs ++ (zs ++ dv)) E t tk) d := fun ad σ H ok Q q =>
  h ad σ H ok _ fun vs H1 e1 a1 => hk ad σ H1 (ok.ext e1) _ fun zs H2 e2 a2 => by
    refine ⟨a1.length.trans l1, a2.length.trans l2, Nw w c ad os, _, d, fun b z => ((ok.ext e1).ext e2).nof (Nw_le b z), (a1.ext e2).append (a2.append (hd _ _)), hR, fun v H' e' r => q v H' ((e1.trans e2).trans e') r⟩
theorem ef_callQ {R : List PyData → List PyData → Prop} {E : XK} {n m : Nat} {dv : List V} {ds es dd rs : List PyData} (h : EvA false c env os t ds) (hk : EvA false c env os tk es) (hd : ∀ N H, DnAll c.K N H dv dd) (l1 : ds.length = n) (l2 : es.length = m) (hR : R (ds ++ (es ++ dd)) rs) : EvF c env os (tCallN n m (spF c.K R) (fun vs zs => vs ++ (zs ++ dv)) E t tk) (.lst (rs.map SV.i)) := fun ad σ H ok Q q =>
  h ad σ H ok _ fun vs H1 e1 a1 => hk ad σ H1 (ok.ext e1) _ fun zs H2 e2 a2 => by
    rw [Nw_false] at a1 a2
    refine ⟨a1.length.trans l1, a2.length.trans l2, Nof c ad os, _, rs, fun b z => ((ok.ext e1).ext e2).nof z, (a1.ext e2).append (a2.append (hd _ _)), hR, fun p H' ws hp e' h1 h2 => q p H' (e1.free (e2.free hp)) ((e1.trans e2).trans e') ⟨ws, h1, dn_paired h2⟩⟩
/-! ### written dicts -/
def EvP (c : Cn) (env : Sy) (os : List SO) (trs : List (TE × TE)) (kvs : List (Key × PyData)) : Prop := ∀ ad σ H, Ok c ad env os σ H → ∀ Q : List (V × V) → Hp → Prop,
  (∀ (vs : List (Key × V)) H2, Ex H H2 → Paired (fun (x : Key × V) (y : Key × PyData) => x.1 = y.1 ∧ Dn c.K (fun _ => True) H2 x.2 y.2) vs kvs → Q (vs.map fun kv => (kV kv.1, kv.2)) H2) → tPairs trs σ H Q
theorem ep_nil : EvP c env os [] [] := fun ad σ H ok Q q => q [] H (Ex.refl H) .nil
theorem ep_cons {trs : List (TE × TE)} {kvs : List (Key × PyData)} {kk : Key} (hk : EvX true c env os ta (kdat kk)) (hv : EvX true c env os tb d) (hd : noList d = true) (hr : EvP c env os trs kvs) : EvP c env os ((ta, tb) :: trs) ((kk, d) :: kvs) := fun ad σ H ok Q q =>
  hk ad σ H ok _ fun v H1 e1 r1 => hv ad σ H1 (ok.ext e1) _ fun u H2 e2 r2 => hr ad σ H2 ((ok.ext e1).ext e2) _ fun vs H3 e3 p => by
    have := q ((kk, u) :: vs) H3 ((e1.trans e2).trans e3) (.cons ⟨rfl, Dn.goF (fun _ _ r => r) d u hd (r2.ext e3)⟩ p)
    rw [List.map_cons] at this
    rw [dn_key r1]
    exact this
theorem mergeK_app : ∀ (more kvs : List (Key × V)), ((kvs ++ more).map (·.1)).Nodup → mergeK kvs more = kvs ++ more
  | [], kvs, _ => by simp [mergeK]
  | p :: more, kvs, h => by
    have e : putK kvs p.1 p.2 = kvs ++ [p] := by
      have hn : ∀ q ∈ kvs, q.1 ≠ p.1 := fun q hq z => by
        rw [List.map_append, List.nodup_append] at h
        exact h.2.2 q.1 (List.mem_map_of_mem hq) p.1 (by simp) z
      unfold putK
      rw [if_neg]
      intro z
      obtain ⟨q, hq, e⟩ := List.any_eq_true.mp z
      exact hn q hq (of_decide_eq_true e)
    show mergeK (putK kvs p.1 p.2) more = _
    rw [e, mergeK_app more (kvs ++ [p]) (by simpa using h)]
    simp
theorem ef_disp {trs : List (TE × TE)} {kvs : List (Key × PyData)} (h : EvP c env os trs kvs) (hn : (kvs.map (·.1)).Nodup) (hl : kvs.length ≤ 15) : EvF c env os (tDisp trs) (.dK (kvs.map fun q => (q.1, SV.i q.2))) := fun ad σ H ok Q q p hp => by
  refine h ad σ _ (ok.ext (Ex.new hp)) _ fun vs H2 e pv => ?_
  have hp2 : H2 p = some (.dK []) := e _ _ upd_same
  have hkeys : vs.map (·.1) = kvs.map (·.1) := by
    clear h hn hl q
    induction pv with
    | nil => rfl
    | cons r t ih => rw [List.map_cons, List.map_cons, r.1, ih]
  refine ⟨hp2, vs, rfl, by have := congrArg List.length hkeys; simp at this; omega, ?_⟩
  rw [mergeK_app vs [] (by simpa [hkeys] using hn), List.nil_append]
  refine q p _ hp (fun a o ha => ?_) ⟨vs, upd_same, ?_⟩
  · rw [upd_ne (ne_of_none ha hp)]
    exact e a o (by rw [upd_ne (ne_of_none ha hp)]; exact ha)
  · have mutd : ∀ (v : V) (d : PyData), Dn c.K (fun _ => True) H2 v d → Dn c.K (fun a => Nof c ad os a ∨ a = p) (upd H2 p (.dK vs)) v d := fun v d r => (r.mut hp2 rfl True.intro).sub fun _ _ => True.intro
    clear hkeys h hn hl q e
    generalize upd H2 p (HO.dK vs) = H3 at mutd
    induction pv with
    | nil => exact .nil
    | cons r t ih => exact .cons ⟨r.1, mutd _ _ r.2⟩ (ih)
/-- divmod -/
theorem ex_divmod {r : List V → Hp → VK → Prop} {i j : Int} (hr : r = fun xs H Q => ∃ i j, xs = [.int i, .int j] ∧ CDiv i j ∧ ∀ p, H p = none → Q (.ref p) (upd H p (.tup [.int (i / j), .int (i % j)]))) (ha : EvX true c env os ta (.int i)) (hb : EvX true c env os tb (.int j)) (hc : CDiv i j) : EvX w c env os (tCB r (tCons ta (tCons tb tNil))) (.tuple [.int (i / j), .int (i % j)]) := fun ad σ H ok Q q => by
  subst hr
  refine ha ad σ H ok _ fun v H1 e1 r1 => hb ad σ H1 (ok.ext e1) _ fun u H2 e2 r2 => ⟨i, j, by rw [dn_int r1, dn_int r2], hc, fun p hp => ?_⟩
  exact q _ _ ((e1.trans e2).trans (Ex.new hp)) (.tup (Or.inl (Or.inl upd_same)) (.cons (.int _) (.cons (.int _) .nil)))
end
end DL

set_option Elab.async false
set_option linter.all false
set_option maxRecDepth 100000
set_option maxHeartbeats 2000000
/-! The data layer: enumerate of a text. -/
namespace L2
open PySem PySem.Spec PyProof.Rows
def IteS (x : Str) : It :=
  ⟨fun i _ => i < x.cps.size, fun i H v H' => ∃ T c, v = .ref T ∧ H T = none ∧ H' = upd H T (.tup [.int (i : Nat), .str ⟨#[c]⟩]) ∧ x.cps[i]? = some c, fun i _ => x.cps.size ≤ i⟩
theorem turn_enumS {P : Program} {w : World} {K : PySem.W.Frag} {elts : List Expr} {kk : Nat} {tpos : Pos} (e it : Addr) (x : Str) (t : Tok) (ty : String) (hty : ty = "str_ascii_iterator" ∨ ty = "str_iterator") :
    Turn P w K (.Tuple elts kk tpos) (IteS x) [e, it] e (fun i h => (∃ old, IsEnum h e it ((i : Nat) : Int) old) ∧ h.IsStrIter it ty x t i ∧ e ≠ it) where
  mem := by simp
  obj := fun i h st b hb => by
    obtain ⟨⟨old, he⟩, ⟨o, ho, hc, hd⟩, _⟩ := st
    have e' : b = e ∨ b = it := by simpa using hb
    rcases e' with z | z
    · rw [z]; exact ⟨_, he, fun v q => nomatch q⟩
    · rw [z]; exact ⟨o, ho, fun v q => by rw [hd] at q; cases q⟩
  keep := fun i h h' st k => let ⟨⟨old, he⟩, ⟨o, ho, r⟩, hne⟩ := st; ⟨⟨old, k e (by simp) _ he⟩, ⟨o, k it (by simp) o ho, r⟩, hne⟩
  item := by
    intro X hP hw hK hc i pins s σ H E I hf st hg
    subst hP hw hK
    obtain ⟨⟨old, he⟩, hit, hne⟩ := st
    have D : Draws X.prog X.w X.A.in1 it [it] x.cps.size (fun i v => ∃ c u, x.cps[i]? = some c ∧ v = .str ⟨#[c]⟩ u) (fun i h => h.IsStrIter it ty x t i) := by
      rcases hty with z | z
      · rw [z]; exact Draws.strAscii (A := X.A.in1) (I.ok.hd hc) it x t
      · rw [z]; exact Draws.strWide (A := X.A.in1) (I.ok.hd hc) it x t
    have hel : e < s.heap.objs.size := Heap.lt_size he
    have hil : it < s.heap.objs.size := by obtain ⟨_, q, _⟩ := hit; exact Heap.lt_size q
    refine wpAny_pyNext_enum_itemD D he hit hg hne (by simpa using hne) fun y h' tk hP ho hit' hT hsz hk => ?_
    obtain ⟨c, u, hcx, rfl⟩ := hP
    refine ⟨_, rfl, wpAny_letOwnedTupleGo_enum (s := { s with heap := h', toks := tk + 1 }) ho fun h'' he' sb => ?_⟩
    have hT2 : h''.get? s.heap.objs.size = some { cls := .type "tuple", data := .seq #[.int i tk, .str ⟨#[c]⟩ u] } := (sb.2 _ (Nat.ne_of_gt hel)).trans hT
    have new : ObjOk X.prog X.w (upd H s.heap.objs.size (.tup [.int (i : Nat), .str ⟨#[c]⟩])) h'' s.heap.objs.size (.tup [.int (i : Nat), .str ⟨#[c]⟩]) :=
      ⟨by show 2 ≤ sizeLine; decide, [.int i tk, .str ⟨#[c]⟩ u], .cons ⟨_, rfl⟩ (.cons ⟨_, rfl⟩ .nil), ⟨_, hT2, rfl, _, rfl⟩⟩
    have I1 : Inv X pins σ (upd H s.heap.objs.size (.tup [.int (i : Nat), .str ⟨#[c]⟩])) { s with heap := h'', toks := tk + 1 } :=
      I.turnedNew (ch := [e, it]) (fun b ob hb q => (sb.2 b (fun z => hb (by simp [z]))).trans (hk b ob (fun z => hb (by simp [z])) (fun z => hb (by simp [z])) q)) hf (Nat.le_refl _) new
    refine ⟨.ref s.heap.objs.size, _, I1, rfl, ⟨_, c, rfl, I.hok.fresh (Nat.le_refl _), rfl, hcx⟩, ⟨⟨.str ⟨#[c]⟩ u, ?_⟩, ?_, hne⟩, fun b hb => ?_⟩
    · have e1 : ((i + 1 : Nat) : Int) = (i : Int) + 1 := by omega
      rw [e1]; exact he'
    · obtain ⟨o, ho2, r⟩ := hit'
      exact ⟨o, (sb.2 it (Ne.symm hne)).trans ho2, r⟩
    · have hb' : b < s.heap.objs.size := by
        have e' : b = e ∨ b = it := by simpa using hb
        rcases e' with z | z
        · rw [z]; exact hel
        · rw [z]; exact hil
      rw [upd_ne (Nat.ne_of_lt hb')]
      exact (hf b hb).1
  done := by
    intro X hP hw hK hc i pins s σ H E I hf st hg
    subst hP hw hK
    obtain ⟨⟨old, he⟩, hit, hne⟩ := st
    obtain ⟨f0, f1, f2, f3, f4, f5⟩ := hf it (by simp)
    have D : Draws X.prog X.w X.A.in1 it [it] x.cps.size (fun i v => ∃ c u, x.cps[i]? = some c ∧ v = .str ⟨#[c]⟩ u) (fun i h => h.IsStrIter it ty x t i) := by
      rcases hty with z | z
      · rw [z]; exact Draws.strAscii (A := X.A.in1) (I.ok.hd hc) it x t
      · rw [z]; exact Draws.strWide (A := X.A.in1) (I.ok.hd hc) it x t
    have hx : x.cps[i]? = none := Array.getElem?_eq_none hg
    have hg2 : x.cps.size ≤ i := hg
    have hle : i = x.cps.size ∨ x.cps.size < i := by omega
    rcases hle with z | z
    · subst z
      exact wpAny_pyNext_enum_endD D he hit fun h' eb => ⟨rfl, I.turned (t' := s.toks) (fun b o hb q => eb b o hb q) f0 f1 f3 f4 f5⟩
    · have D2 : Draws X.prog X.w X.A.in1 it [it] i (fun i v => ∃ c u, x.cps[i]? = some c ∧ v = .str ⟨#[c]⟩ u) (fun j h => h.IsStrIter it ty x t j ∧ x.cps.size < i ∧ j = i) := by
        refine ⟨fun j h st => D.live j h st.1, fun j h h' st hk => ⟨D.frame j h h' st.1 hk, st.2⟩, fun j s Q E hj st hQ => absurd st.2.2 (by omega), fun s Q E st hE => ?_⟩
        rcases hty with y | y
        · rw [y] at st; exact wpAny_nextOf_ascii_end (A := X.A.in1) (I.ok.hd hc) st.1 hx hE
        · rw [y] at st; exact wpAny_nextOf_wide_end (A := X.A.in1) (I.ok.hd hc) st.1 hx hE
      exact wpAny_pyNext_enum_endD D2 he ⟨hit, z, rfl⟩ fun h' eb => ⟨rfl, I.turned (t' := s.toks) (fun b o hb q => eb b o hb q) f0 f1 f3 f4 f5⟩
  self := fun A i s Q E st h => let ⟨⟨_, he⟩, _⟩ := st; wpAny_pyIter_enum he h
def iEnumS (ta : TA) : TI := fun σ H R => ta σ H fun vs H1 => ∃ x, vs = [.str x] ∧ R (IteS x) H1
theorem pi_enumS {X : Cx} {e : Expr} {ta : TA} {p pos tpos : Pos} {elts : List Expr} {kk : Nat} (hg : Gl X "enumerate") (hm : X.mg "enumerate" = none) (ha : PA X [e] ta) (hs : starEach [e] X.env = [(false, eval e X.env)] := by rfl) :
    PI X (.Tuple elts kk tpos) (.Call (.Name "enumerate" p) [e] [] pos) (iEnumS ta) := by
  refine ⟨fun pins s σ H R I h => ?_⟩
  refine Call_ (ld_blt I hg hm boot_enumerate (PyProof.Rows.callWith_type1 (thn (ha.run pos pins s σ H _ I h) fun us s1 ⟨vs, H1, I1, r1, q1⟩ => ?_) hs rfl))
  obtain ⟨x, ex, q⟩ := q1
  subst ex
  cases r1 with
  | cons r rr =>
    cases rr
    obtain ⟨t, rfl⟩ := r
    refine call_enumerate_str fun h' he hit hsz hk => wpAny_pyIter_enum he ?_
    have I2 : Inv X pins σ H1 { s1 with heap := h' } := I1.kept (t' := s1.toks) hk
    have hty : strIterType x = "str_ascii_iterator" ∨ strIterType x = "str_iterator" := by unfold strIterType; split <;> simp
    refine ⟨s1.heap.objs.size + 1, [s1.heap.objs.size + 1, s1.heap.objs.size], _, _, H1, rfl, I2, turn_enumS (s1.heap.objs.size + 1) s1.heap.objs.size x t (strIterType x) hty, ⟨⟨.none, he⟩, hit, Nat.succ_ne_self _⟩, fun b hb => ?_, q⟩
    have e' : b = s1.heap.objs.size + 1 ∨ b = s1.heap.objs.size := by simpa using hb
    have hle : s1.heap.objs.size ≤ b := by
      rcases e' with z | z
      · rw [z]; exact Nat.le_add_right _ _
      · rw [z]; exact Nat.le_refl _
    exact I1.fpOk hle (I1.hok.fresh hle)
end L2
namespace DL
open PySem PySem.Spec PyProof.Rows L2
open Evl (Ex Ex.refl Ex.trans Ex.new)
theorem ew_enumS {c : Cn} {env : Sy} {os : List SO} {te : TE} {a : List Nat} (h : EvX true c env os te (dT a)) : EvW c env os (iEnumS (tCons te tNil)) a.length (fun i => .i (.tuple [.int (i : Int), dT [a.getD i 0]])) (fun _ => True) := fun ad σ H ok R q =>
  h ad σ H ok _ fun v H1 e r => by
    refine ⟨sT a, by rw [dn_str r], q _ H1 c.fr e (ok.ext e).pin0 (up_pin0 (ok.ext e)) ⟨fun i ad' env' os' σ' H' hi o _ => ?_, fun ad' env' os' σ' H' o _ => ?_, fun i ad' env' os' σ' H' x H'' hi o _ y => ?_⟩⟩
    · show i < (sT a).cps.size
      simpa using hi
    · show (sT a).cps.size ≤ _
      simp
    · obtain ⟨T, x, rfl, hT, rfl, hx⟩ := y
      refine ⟨Ex.new hT, ?_⟩
      have hx2 : a[i]? = some x := by simpa using hx
      rw [List.getD_eq_getElem?_getD, hx2]
      exact Dn.tup (Or.inl (Or.inl upd_same)) (.cons (.int _) (.cons (.str _) .nil))
theorem itE_at {a : List Nat} (i : Nat) (x : Nat) (h : a[i]? = some x) : (SV.i (.tuple [.int (i : Int), dT [a.getD i 0]])) = .i (.tuple [.int (i : Int), dT [x]]) := by rw [List.getD_eq_getElem?_getD, h]; rfl
end DL

set_option Elab.async false
set_option linter.all false
set_option maxRecDepth 100000
set_option maxHeartbeats 2000000
/-! The data layer: a generator that hands out a list's items; list(g). -/
namespace L2
open PySem PySem.Spec PyProof.Rows GenW
section
variable {prog : Program} {w : World} {A : Around} {E : Value → Shared → Prop} {s : Shared}
theorem special_lst_item {it l : Addr} {i : Nat} {items : Array Value} {x : Value} {Q : Option Value → Shared → Prop} (hit : s.heap.IsListIter it l i) (hl : s.heap.IsList l items) (hx : items[i]? = some x)
    (hQ : ∀ h', h'.IsListIter it l (i + 1) → Heap.SameBut it s.heap h' → Q (some x) { s with heap := h' }) : wpAny (model prog w) A (callSpecial? (.ref it) "__next__") Q E s := by
  obtain ⟨o, ho, hc, hd⟩ := id hit
  obtain ⟨ol, hol, _, nl, hdl⟩ := hl
  refine wpAny_callSpecial?_slot (name := Str.ofString "__next__") hit.typeIs slot_listiter_next (wpAny_call_entry slot_listiter_next hit.typeIs entry_listiter_next ?_ (args_listiter_next _))
  show wpAny _ _ (field (.ref it) 0 >>= _) _ _ s
  refine wpAny_bind (wpAny_field ho hd (x := .ref l) rfl ?_)
  show wpAny _ _ (if (Value.ref l == Value.none) = true then _ else _) _ _ s
  rw [if_neg (show ¬ ((Value.ref l == Value.none) = true) from Bool.false_ne_true)]
  show wpAny _ _ (field (.ref it) 1 >>= _) _ _ s
  refine wpAny_bind (wpAny_field ho hd (x := .int i 0) rfl ?_)
  show wpAny _ _ (seqItems? (.ref l) >>= _) _ _ s
  refine wpAny_bind (wpAny_seqItems hol hdl ?_)
  simp only [Int.toNat_natCast, hx]
  refine wpAny_bind (wpAny_setField ho hd (by simp) (wpAny_pure ⟨x, rfl, hQ _ ?_ (Heap.SameBut.update ..)⟩))
  exact ⟨_, Heap.get?_update_self _ ho (Obj.isFreed_of_fields (Obj.data_mapFields hd _)), (Obj.cls_mapFields ..).trans hc, by
    rw [Obj.data_mapFields hd]; simp [rawInt]⟩
theorem special_lst_end {it l : Addr} {i : Nat} {items : Array Value} {Q : Option Value → Shared → Prop} (hh : A.handled = none) (hit : s.heap.IsListIter it l i) (hl : s.heap.IsList l items) (hx : items[i]? = none)
    (hE : ∀ e h', StopX e h' → Heap.ExtBut it s.heap h' → E e { s with heap := h' }) : wpAny (model prog w) A (callSpecial? (.ref it) "__next__") Q E s := by
  obtain ⟨o, ho, hc, hd⟩ := id hit
  obtain ⟨ol, hol, _, nl, hdl⟩ := hl
  refine wpAny_callSpecial?_slot (name := Str.ofString "__next__") hit.typeIs slot_listiter_next (wpAny_call_entry slot_listiter_next hit.typeIs entry_listiter_next ?_ (args_listiter_next _))
  show wpAny _ _ (field (.ref it) 0 >>= _) _ _ s
  refine wpAny_bind (wpAny_field ho hd (x := .ref l) rfl ?_)
  show wpAny _ _ (if (Value.ref l == Value.none) = true then _ else _) _ _ s
  rw [if_neg (show ¬ ((Value.ref l == Value.none) = true) from Bool.false_ne_true)]
  show wpAny _ _ (field (.ref it) 1 >>= _) _ _ s
  refine wpAny_bind (wpAny_field ho hd (x := .int i 0) rfl ?_)
  show wpAny _ _ (seqItems? (.ref l) >>= _) _ _ s
  refine wpAny_bind (wpAny_seqItems hol hdl ?_)
  simp only [Int.toNat_natCast, hx]
  refine wpAny_bind (wpAny_rule (wpAny_bind (wpAny_setField ho hd (by simp) ?_)))
  show wpAny _ _ (newExc (.type "StopIteration") [] >>= _) _ _ _
  refine wpAny_bind ?_
  simp only [newExc, newTuple]
  refine wpAny_bind (wpAny_newObj_type ?_ (by size_fits))
  refine wpAny_bind (m := firstArgMember _ _) (wpAny_of_eq (a := Value.none) (by first | rfl | (simp only [firstArgMember]; rfl)) ?_)
  refine wpAny_newObj_type ?_ (by size_fits)
  simp only [raiseNew]
  refine wpAny_bind (wpAny_handled ?_)
  first | rw [show A.in1.handled = none from hh] | rw [hh]
  refine wpAny_bind (wpAny_pure (wpAny_throw ?_))
  refine hE _ _ ⟨_, _, _, rfl, Heap.get?_push_size _ rfl, rfl, rfl, ?_⟩ (((Heap.SameBut.update ..).extBut.push _).push _)
  first
    | rfl
    | (rw [Array.getElem?_append_left (by decide)]; rfl)
    | kernel_rfl
end
section
variable {X : Cx} {e : Expr} {te : TE}
def tYfLst (te : TE) : TYf := fun σ H Q => te σ H fun x H1 => ∃ a xs, x = .ref a ∧ H1 a = some (.lst xs) ∧ Q xs H1
theorem close_lst : typeLookup (.type "list_iterator") "close" = pure none := by rw [typeLookup_type, builtinLookup_eq_fast]; kernel_rfl
theorem yf_lst (he : PE X e te) : YfE X e (tYfLst te) := by
  refine ⟨fun pins s σ H Q I h => ?_⟩
  refine thn (he.run pins s σ H _ I h) fun v s1 ⟨x, H1, I1, r1, a, xs, ex, ha, hq⟩ => ?_
  subst ex
  obtain rfl : v = Value.ref a := r1
  obtain ⟨its, rits, pl, hz⟩ := I1.list (Or.inl (Or.inl ha))
  have ht := pl.isList
  refine ⟨"list", ht.typeIs, by decide, wpAny_pyIter_list ht ?_⟩
  have ksz : ∀ b o, s1.heap.get? b = some o → b ≠ s1.heap.objs.size := fun b o e => Nat.ne_of_lt (Heap.lt_size e)
  have kp : ∀ b o, s1.heap.get? b = some o → (s1.heap.push { cls := .type "list_iterator", data := .fields #[.ref a, .int 0 0] }).get? b = some o := fun b o e => Heap.get?_push_of_some _ e
  have hal : a < s1.heap.objs.size := by obtain ⟨o, ho, _⟩ := ht; exact Heap.lt_size ho
  refine ⟨s1.heap.objs.size, H1, xs, fun j h => h.IsListIter s1.heap.objs.size a j ∧ h.IsList a its.toArray, rfl, I1.kept (t' := s1.toks) kp, .inr I1.sz, Nat.ne_of_gt I1.lt, fun y c hy => ?_, I1.hok.fresh (Nat.le_refl _), fun p hp => ?_,
    ⟨⟨_, Heap.get?_push_size _ rfl, rfl, rfl⟩, let ⟨o, ho, r⟩ := ht; ⟨o, kp a o ho, r⟩⟩, ⟨⟨"list_iterator", fun j h q => ?_, close_lst, by decide⟩, fun j h h' q hk => ?_, fun A' j x s2 Q' E' hA hx q hQ => ?_, fun A' s2 Q' E' hA q hE => ?_⟩, hq⟩
  · obtain ⟨v, o, ho, _⟩ := I1.cell y c hy
    exact ksz c o ho
  · exact ksz p.1 _ (I1.pin p hp).1
  · obtain ⟨⟨o, ho, hc, _⟩, _⟩ := q
    exact ⟨o, ho, hc⟩
  · obtain ⟨⟨o, ho, r⟩, o2, ho2, r2⟩ := q
    exact ⟨⟨o, hk _ o (.inl rfl) ho, r⟩, o2, hk _ o2 (.inr (by rw [ha]; exact fun z => by cases z)) ho2, r2⟩
  · obtain ⟨q1, q2⟩ := q
    obtain ⟨u, hu, ru⟩ := rits.get hx
    have hne : a ≠ s1.heap.objs.size := Nat.ne_of_lt hal
    exact special_lst_item q1 q2 (x := u) (by simpa using hu) fun h' q1' hs => hQ u h' s2.toks ru ⟨q1', q2.extBut hs.extBut hne⟩ fun b o hb eb => hs.extBut b o hb eb
  · obtain ⟨q1, q2⟩ := q
    have hnone : its.toArray[xs.length]? = none := by
      have e := rits.length
      have e2 : its[xs.length]? = none := List.getElem?_eq_none_iff.mpr (by omega)
      simpa using e2
    exact special_lst_end hA q1 q2 hnone fun e h' hS hk => hE e h' s2.toks hS fun b o hb eb => hk b o hb eb
end
end L2
namespace DL
open PySem PySem.Spec PyProof.Rows L2
open Evl (Ex Ex.refl Ex.trans Ex.new)
/-- data in; what is handed out -/
def spG (K : PySem.W.Frag) (R : List PyData → List PyData → Prop) : SpG := fun vs H Q _ => ∃ (N : Addr → Prop) (ds : List PyData) (rs : List PyData), (∀ a, N a → H a ≠ none) ∧ DnAll K N H vs ds ∧ R ds rs ∧ ∀ H' ws, Ex H H' → DnAll K N H' ws rs → Q ws H'
theorem spG_len {K : PySem.W.Frag} {R : List PyData → List PyData → Prop} {n : Nat} (hR : ∀ ds d, R ds d → ds.length = n) : ∀ vs H Q E, spG K R vs H Q E → vs.length = n := fun vs H Q E ⟨N, ds, d, _, h, r, _⟩ => h.length.trans (hR ds d r)
def CalG (P : Program) (w : World) (K : PySem.W.Frag) (mg : Str → Option Value) (base : Heap) (k : Nat) (x : Str) (ps : List Str) (sp : SpG) : Prop :=
  ∃ f fd, GFn P w K mg base k f fd ps sp ∧ Binds K fd ps [] ∧ mg x = some (.ref f) ∧ PySem.W.keepIn K (.ref f) = true
theorem calG_mk {P : Program} {w : World} {K : PySem.W.Frag} {mg : Str → Option Value} {base : Heap} {x : Str} {st : Stmt} {f : Addr} {fd : FuncData} {N ps : List Str} {k : Nat} {sp : SpG} (F : FnP K x st f fd) (S : GScope N ps (defScope st)) (g : mg x = some (.ref f)) (len : ∀ vs H Q E, sp vs H Q E → vs.length = ps.length)
    (hb : ∀ (kV doc pm : Value) (an : Option Addr) (cdv ct : Value) (us : List Value), us.length = ps.length → bindArgs (PySem.W.fnOf x x (defArgs st) (defBody st) (defScope st) .none kV doc pm an cdv ct) ⟨us, []⟩ = pure (ps.zip us))
    (hbody : ∀ (cdv : Value) (A : Around) (outer : List Env) (s : Shared) (H : Hp) (vs : List V) (Q : List V → Hp → Prop) (E : XK) (pn : List (Addr × Obj)), Room k (A.deeper (envOfC x (defScope st) s.heap.objs.size f cdv)) → sp vs H Q E →
      ∃ t, GSs (gcxOf P w K mg base N x (defScope st) f cdv A outer s H E pn) (defBody st) t ∧ t { nx := fun ys _ H' => Q ys H', rt := fun ys v H' => v = .non ∧ Q ys H' } [] (L2.start N vs) H) : CalG P w K mg base (k + 1) x ps sp := by
  refine ⟨f, fd, ?_, F.bindsN hb, g, F.kp⟩
  obtain ⟨oc, od, dV, kV, doc, pm, an, cdv, ct, osl, rfl, lk, hcd, _, _⟩ := F.ex
  exact gfn_of lk hcd S len fun A outer s H vs Q E pn hr hsp => hbody cdv A outer s H vs Q E pn hr hsp
theorem passG {X : Cx} : Passes (CX X.prog X.w) X E0 := fun pins σ H s e s' I c => by
  obtain ⟨a, B, H', cls, d, _, _, _, _, _, _, _, hW⟩ := c
  exact hW.elim
theorem pe_listCal {X : Cx} {k j : Nat} {ps : List Str} {sp : SpG} {x : Str} {p pos p2 pos2 : Pos} {e : Expr} {es : List Expr} {t : TA} (h : CalG X.prog X.w X.K X.mg X.base k x ps sp) (hr : Room j X.A) (hj : k + 3 ≤ j) (hg : Gl X x) (ha : PA X (e :: es) t)
    (hl : Gl X "list") (hm : X.mg "list" = none) (hpl : (backTo pos (starEach es X.env)).any (·.1) = false := by rfl)
    (hdb : (x == ("__debug__" : Str)) = false := by decide) (he : starEach (e :: es) X.env = (false, eval e X.env) :: starEach es X.env := by rfl)
    (he2 : starEach [.Call (.Name x p) (e :: es) [] pos] X.env = (false, eval (.Call (.Name x p) (e :: es) [] pos) X.env) :: starEach [] X.env := by rfl) :
    PE X (.Call (.Name "list" p2) [.Call (.Name x p) (e :: es) [] pos] [] pos2) (tListG (tCallG sp [] E0 t)) := by
  obtain ⟨f, fd, G, b, g, kp⟩ := h
  exact pe_listG (pgen_call (E := E0) G (hr.mono (by omega)) hg g kp b .nil ha hdb he hpl) passG (fun _ _ _ z => z.elim) (hr.mono (by omega)) hl hm rfl (by decide) (by decide) he2
section
variable {c : Cn} {env : Sy} {os : List SO} {ta : TA}
/-- list(g(..)) -/
theorem ef_listG {R : List PyData → List PyData → Prop} {E : XK} {ds rs : List PyData} (h : EvA false c env os ta ds) (hR : R ds rs) : EvF c env os (tListG (tCallG (spG c.K R) [] E ta)) (.lst (rs.map SV.i)) := fun ad σ H ok Q q =>
  h ad σ H ok _ fun vs H2 e a => by
    rw [Nw_false] at a
    rw [List.append_nil]
    refine ⟨Nof c ad os, ds, rs, fun b z => (ok.ext e).nof z, a, hR, fun H' ws e' h2 p hp => ?_⟩
    refine q p _ (e.free (e'.free hp)) ((e.trans e').trans (Ex.new hp)) ⟨ws, upd_same, ?_⟩
    exact dn_paired ((DnAll.add hp h2).ext (Ex.new hp))
/-- the body: yield from a new list -/
theorem run_yf {K : PySem.W.Frag} {R : List PyData → List PyData → Prop} {vs : List V} {H : Hp} {Q : List V → Hp → Prop} {E : XK} {Nm : List Str} {te : TE} {D : GEnds} (h : spG K R vs H Q E) (hD : D.nx = fun ys _ H' => Q ys H')
    (g : ∀ N ds rs, R ds rs → rs.length ≤ 100000 ∧ EvF ⟨K, H, N, fun _ => False, [], 0⟩ (env0 Nm.length ds) [] te (.lst (rs.map SV.i))) : tGThen (tGFrom (tYfLst te)) tG0 D [] (L2.start Nm vs) H := by
  obtain ⟨N, ds, rs, hN, hv, hR, hq⟩ := h
  obtain ⟨hl, hf⟩ := g N ds rs hR
  refine hf _ _ _ (ok_start hN hv) _ fun p H2 hp e r => ?_
  obtain ⟨ws, hws, pws⟩ := r
  refine ⟨p, ws, rfl, hws, ?_, ?_⟩
  · rw [List.length_nil, Nat.zero_add, Paired.length pws, List.length_map]; exact Nat.le_trans hl (by decide)
  · show D.nx ([] ++ ws) _ H2
    rw [hD, List.nil_append]
    exact hq H2 ws e ((paired_dn pws).sub fun a z => Or.inl (Or.inl z))
end
end DL

set_option Elab.async false
set_option linter.all false
set_option maxRecDepth 100000
set_option maxHeartbeats 2000000
/-! The data layer: dicts with whole numbers or texts as keys, as data; lists of the store within a dict of the store. -/
namespace DL
open PySem PySem.Spec PyProof.Rows L2
open Evl (Ex Ex.refl Ex.trans Ex.new)
/-! ### as data -/
def dKd {α β : Type} (ek : α → Key) (ev : β → PyData) (m : List (α × β)) : PyData := .dict (m.map fun p => (kdat (ek p.1), ev p.2))
section
variable {α β : Type} {K : PySem.W.Frag} {N : Addr → Prop} {H : Hp}
theorem dn_dK {ek : α → Key} {ev : β → PyData} {m : List (α × β)} {v : V} (h : Dn K N H v (dKd ek ev m)) : ∃ a ws, v = .ref a ∧ Rd H a (.dK ws) ∧ ¬ N a ∧ Paired (fun (p : Key × V) (q : α × β) => p.1 = ek q.1 ∧ Dn K N H p.2 (ev q.2)) ws m := by
  unfold dKd at h
  cases h with
  | @dkk a ws _ r n p =>
    refine ⟨_, _, rfl, r, n, ?_⟩
    clear r
    induction m generalizing ws with
    | nil =>
      cases ws with
      | nil => exact .nil
      | cons x ws => cases p
    | cons q m ih =>
      cases ws with
      | nil => cases p
      | cons x ws =>
        rw [List.map_cons, List.map_cons] at p
        generalize hk : kdat x.1 = kd at p
        generalize hk2 : kdat (ek q.1) = kd2 at p
        cases p with
        | cons a b => exact .cons ⟨kdat_inj (hk.trans hk2.symm), a⟩ (ih b)
  | @dkt a ws _ r n p =>
    cases m with
    | nil => cases p
    | cons q m =>
      rw [List.map_cons] at p
      generalize hk : kdat (ek q.1) = kd at p
      cases p
      cases hq : ek q.1 <;> rw [hq] at hk <;> cases hk
theorem dK_dn {ek : α → Key} {ev : β → PyData} {m : List (α × β)} {a : Addr} {ws : List (Key × V)} (r : Rd H a (.dK ws)) (n : ¬ N a) (p : Paired (fun (p : Key × V) (q : α × β) => p.1 = ek q.1 ∧ Dn K N H p.2 (ev q.2)) ws m) : Dn K N H (.ref a) (dKd ek ev m) := by
  refine .dkk r n ?_
  clear r
  induction p with
  | nil => exact .nil
  | cons r t ih =>
    rw [List.map_cons, List.map_cons, r.1]
    exact .cons r.2 ih
theorem pairK {ek : α → Key} {ev : β → PyData} {ad : Nat → Addr} {n : Nat} : ∀ {ws : List (Key × V)} {m : List (α × β)}, Paired (fun (p : Key × V) (q : Key × SV) => p.1 = q.1 ∧ SvOk K N ad n H p.2 q.2) ws (m.map fun p => (ek p.1, SV.i (ev p.2))) → Paired (fun (p : Key × V) (q : α × β) => p.1 = ek q.1 ∧ Dn K N H p.2 (ev q.2)) ws m
  | _, [], h => by cases h; exact .nil
  | _, q :: m, h => by
    cases h with
    | cons a b => exact .cons a (pairK b)
theorem pairKi {ek : α → Key} {ev : β → PyData} {ad : Nat → Addr} {n : Nat} : ∀ {ws : List (Key × V)} {m : List (α × β)}, Paired (fun (p : Key × V) (q : α × β) => p.1 = ek q.1 ∧ Dn K N H p.2 (ev q.2)) ws m → Paired (fun (p : Key × V) (q : Key × SV) => p.1 = q.1 ∧ SvOk K N ad n H p.2 q.2) ws (m.map fun p => (ek p.1, SV.i (ev p.2)))
  | _, _, .nil => .nil
  | _, _, .cons r t => .cons r (pairKi t)
variable [DecidableEq α]
theorem val_dK {ek : α → Key} (hi : ∀ a b, ek a = ek b → a = b) {F : V → β → Prop} : ∀ {ws : List (Key × V)} {m : List (α × β)}, Paired (fun (p : Key × V) (q : α × β) => p.1 = ek q.1 ∧ F p.2 q.2) ws m → ∀ a, (valV ws (ek a) = none ∧ getA m a = none) ∨ ∃ v b, valV ws (ek a) = some v ∧ getA m a = some b ∧ F v b
  | _, _, .nil, a => Or.inl ⟨rfl, rfl⟩
  | _, _, .cons (a := p) (b := q) r t, a => by
    rw [getA_cons]
    by_cases h : q.1 = a
    · rw [if_pos h]
      exact Or.inr ⟨p.2, q.2, valV_pos (r.1.trans (by rw [h])), rfl, r.2⟩
    · rw [if_neg h, valV_neg (fun z => h (hi _ _ (r.1.symm.trans z)))]
      exact val_dK hi t a
end
section
variable {α β : Type} [DecidableEq α] {w w' : Bool} {c : Cn} {env env' : Sy} {os : List SO} {te ta tb tl td ty tv tx : TE} {d : PyData} {u : TS} {D : Ends} {ek : α → Key} {ev : β → PyData} {m : List (α × β)}
theorem DGet.rk {H : Hp} {a : Addr} {kvs : List (Key × V)} {k : Key} (e : Rd H a (.dK kvs)) : DGet H a (kV k) (valV kvs k) := .inl ⟨kvs, k, e, rfl, rfl⟩
/-- k in d, k not in d, d[k] of data -/
theorem ex_inD {a : α} (hi : ∀ a b, ek a = ek b → a = b) (hk : EvX true c env os ty (kdat (ek a))) (hd : EvX true c env os td (dKd ek ev m)) : EvX w c env os (tDIn ty td) (.bool (getA m a).isSome) := fun ad σ H ok Q q =>
  hk ad σ H ok _ fun b H1 e1 r1 => hd ad σ H1 (ok.ext e1) _ fun v H2 e2 r2 => by
    obtain ⟨p, ws, rfl, hp, _, pw⟩ := dn_dK r2
    refine ⟨p, _, rfl, by rw [dn_key r1]; exact DGet.rk hp, ?_⟩
    rcases val_dK (F := fun v b => Dn c.K (Nw true c ad os) H2 v (ev b)) hi pw a with ⟨x, y⟩ | ⟨v, b, x, y, _⟩
    · rw [y] at q; rw [x]; exact q _ H2 (e1.trans e2) (.bl false)
    · rw [y] at q; rw [x]; exact q _ H2 (e1.trans e2) (.bl true)
theorem ex_notinD {a : α} (hi : ∀ a b, ek a = ek b → a = b) (hk : EvX true c env os ty (kdat (ek a))) (hd : EvX true c env os td (dKd ek ev m)) : EvX w c env os (tDNotIn ty td) (.bool (!(getA m a).isSome)) := fun ad σ H ok Q q =>
  hk ad σ H ok _ fun b H1 e1 r1 => hd ad σ H1 (ok.ext e1) _ fun v H2 e2 r2 => by
    obtain ⟨p, ws, rfl, hp, _, pw⟩ := dn_dK r2
    refine ⟨p, _, rfl, by rw [dn_key r1]; exact DGet.rk hp, ?_⟩
    rcases val_dK (F := fun v b => Dn c.K (Nw true c ad os) H2 v (ev b)) hi pw a with ⟨x, y⟩ | ⟨v, b, x, y, _⟩
    · rw [y] at q; rw [x]; exact q _ H2 (e1.trans e2) (.bl true)
    · rw [y] at q; rw [x]; exact q _ H2 (e1.trans e2) (.bl false)
theorem ex_dgetD {a : α} {b : β} (hi : ∀ a b, ek a = ek b → a = b) (hd : EvX w c env os td (dKd ek ev m)) (hk : EvX true c env os ty (kdat (ek a))) (hg : getA m a = some b) : EvX w c env os (tDGet td ty) (ev b) := fun ad σ H ok Q q =>
  hd ad σ H ok _ fun v H1 e1 r1 => hk ad σ H1 (ok.ext e1) _ fun y H2 e2 r2 => by
    obtain ⟨p, ws, rfl, hp, _, pw⟩ := dn_dK (r1.ext e2)
    rcases val_dK (F := fun v b => Dn c.K (Nw w c ad os) H2 v (ev b)) hi pw a with ⟨x, z⟩ | ⟨v, b', x, z, f⟩
    · rw [hg] at z; cases z
    · rw [hg] at z; cases z
      exact ⟨p, v, rfl, by rw [dn_key r2, ← x]; exact DGet.rk hp, q v H2 (e1.trans e2) f⟩
theorem EvF.evK (h : EvF c env os te (.dK (m.map fun p => (ek p.1, SV.i (ev p.2))))) : EvX w c env os te (dKd ek ev m) := EvX.weak fun ad σ H ok Q q => h ad σ H ok Q fun p H2 hp e r => by
  obtain ⟨ws, h1, h2⟩ := r
  refine q _ H2 e ?_
  rw [Nw_false]
  exact dK_dn (Or.inl h1) (fun z => ok.nof z hp) (Paired.imp (pairK h2) fun _ _ z => ⟨z.1, z.2.sub fun a y => Or.inl y⟩)
/-! ### of the store -/
theorem ex_notinK {k : Nat} {kvs : List (Key × SV)} {kk : Key} (hi : EvX true c env os ty (kdat kk)) (hl : EvR c env os td k) (hk : os[k]? = some (.dK kvs)) : EvX w c env os (tDNotIn ty td) (.bool (!(getA kvs kk).isSome)) := fun ad σ H ok Q q =>
  hi ad σ H ok _ fun b H1 e1 r1 => hl.2 ad σ H1 (ok.ext e1) _ fun H2 e2 => by
    obtain ⟨_, ws, hws, pw⟩ := ((ok.ext e1).ext e2).obj k _ hk rfl
    refine ⟨ad k, _, rfl, by rw [dn_key r1]; exact DGet.k hws, ?_⟩
    rcases val_get (F := SvOk c.K (Nof c ad os) ad os.length H2) pw kk with ⟨x, y⟩ | ⟨v, b, x, y, _⟩
    · rw [y] at q; rw [x]; exact q _ H2 (e1.trans e2) (.bl true)
    · rw [y] at q; rw [x]; exact q _ H2 (e1.trans e2) (.bl false)
theorem er_dget {k j : Nat} {kvs : List (Key × SV)} {kk : Key} (hl : EvR c env os td k) (hk : os[k]? = some (.dK kvs)) (hi : EvX true c env os ty (kdat kk)) (hg : getA kvs kk = some (.r j)) (hj : j < os.length) : EvR c env os (tDGet td ty) j := ⟨hj, fun ad σ H ok Q q =>
  hl.2 ad σ H ok _ fun H1 e1 => hi ad σ H1 (ok.ext e1) _ fun v H2 e2 r2 => by
    obtain ⟨_, ws, hws, pw⟩ := ((ok.ext e1).ext e2).obj k _ hk rfl
    rcases val_get (F := SvOk c.K (Nof c ad os) ad os.length H2) pw kk with ⟨_, b⟩ | ⟨x, s, a, b, f⟩
    · rw [hg] at b; cases b
    · rw [hg] at b; cases b
      obtain ⟨rfl, _⟩ := (show x = .ref (ad j) ∧ j < os.length from f)
      exact ⟨ad k, _, rfl, by rw [dn_key r2, ← a]; exact DGet.k hws, q H2 (e1.trans e2)⟩⟩
/-- d[k] = a new object -/
theorem gs_dputF {k : Nat} {kvs : List (Key × SV)} {kk : Key} {o : SO} (h : EvF c env os tv o) (hl : EvR c env os td k) (hk : os[k]? = some (.dK kvs)) (hi : EvX true c env os ty (kdat kk)) (hz : kvs.length < 100000)
    (g : Go c env ((os ++ [o]).set k (.dK (setA kvs kk (.r os.length)))) u D) : Go c env os (tSeq (sDPut td ty tv) u) D := fun ad σ H ok =>
  h ad σ H ok _ fun p H1 hp e r => hl.2 ad σ H1 (ok.ext e) _ fun H2 e2 => hi ad σ H2 ((ok.ext e).ext e2) _ fun y H3 e3 r3 => by
    have h0 : c.H0 p = none ∨ c.M p := by
      by_cases hm : c.M p
      · exact Or.inr hm
      · refine Or.inl ?_
        cases hz : c.H0 p with
        | none => rfl
        | some o => rw [ok.ex p o hz hm] at hp; cases hp
    have ok1 := ok.new hp e h0 r
    have ok3 := (ok1.ext e2).ext e3
    have hlt : k < os.length := (List.getElem?_eq_some_iff.mp hk).1
    have hk' : (os ++ [o])[k]? = some (.dK kvs) := by rw [List.getElem?_append_left hlt]; exact hk
    obtain ⟨_, ws, hws, pw⟩ := ok3.obj k _ hk' rfl
    have ea : adN ad os.length p k = ad k := adN_ne (by omega)
    have hN : Nof c (adN ad os.length p) (os ++ [o]) (adN ad os.length p k) := Or.inr ⟨k, ⟨_, hk', rfl⟩, rfl⟩
    have ok4 := ok3.mut (u' := .dK (putK ws kk (.ref p))) hk' rfl (o' := .dK (setA kvs kk (.r os.length))) rfl ⟨putK ws kk (.ref p), upd_same, put_set (Paired.imp pw fun _ _ z => ⟨z.1, z.2.mut hws rfl hN⟩) ⟨by rw [adN_same], by simp⟩⟩
    rw [ea] at ok4 hws
    refine ⟨ad k, _, rfl, ?_, g _ σ _ ok4⟩
    rw [dn_key r3]
    exact DPut.k hws (by rw [Paired.length pw]; exact Nat.lt_of_lt_of_le hz (by decide))
theorem paired_setR {γ δ : Type} {F G : γ → δ → Prop} {b' : δ} : ∀ {l1 : List γ} {l2 : List δ} {i : Nat}, Paired F l1 l2 → (∀ a b, F a b → G a b) → (∀ a b, l2[i]? = some b → F a b → G a b') → Paired G l1 (l2.set i b')
  | _, _, _, .nil, _, _ => .nil
  | _, _, 0, .cons r t, f, h => .cons (h _ _ rfl r) (Paired.imp t f)
  | _, _, i + 1, .cons r t, f, h => .cons (f _ _ r) (paired_setR t f fun a b e q => h a b (by simpa using e) q)
/-- a list within a dict is data from now on -/
theorem Ok.ownD {ad : Nat → Addr} {σ : L2.St} {H : Hp} {k j i0 : Nat} {kk : Key} {kvs : List (Key × SV)} {ds : List PyData} (ok : Ok c ad env os σ H) (hk : os[k]? = some (.dK kvs)) (hj : os[j]? = some (.lst (ds.map SV.i))) (hi : kvs[i0]? = some (kk, .r j)) (kj : k ≠ j) :
    Ok c ad env ((os.set k (.dK (kvs.set i0 (kk, .i (.list ds))))).set j .x) σ H := by
  have lj : Lv os j := ⟨_, hj, rfl⟩
  have lk : Lv os k := ⟨_, hk, rfl⟩
  have kl := (List.getElem?_eq_some_iff.mp hk).1
  have jl := (List.getElem?_eq_some_iff.mp hj).1
  have hl : ∀ i, Lv ((os.set k (.dK (kvs.set i0 (kk, .i (.list ds))))).set j .x) i → Lv os i ∧ i ≠ j := fun i h => by
    obtain ⟨u, e, hu⟩ := h
    by_cases q : j = i
    · subst q
      rw [List.getElem?_set_self (by rw [List.length_set]; exact jl)] at e
      cases e; cases hu
    · rw [List.getElem?_set_ne q] at e
      by_cases q2 : k = i
      · subst q2; exact ⟨lk, fun z => q z.symm⟩
      · rw [List.getElem?_set_ne q2] at e
        exact ⟨⟨u, e, hu⟩, fun z => q z.symm⟩
  have len : ((os.set k (.dK (kvs.set i0 (kk, .i (.list ds))))).set j .x).length = os.length := by simp
  have hN : ∀ a, Nof c ad ((os.set k (.dK (kvs.set i0 (kk, .i (.list ds))))).set j .x) a → Nof c ad os a ∧ a ≠ ad j := fun a h => by
    rcases h with h | ⟨i, l, e⟩
    · exact ⟨Or.inl h, fun z => ok.nn j lj (z ▸ h)⟩
    · obtain ⟨l', ne⟩ := hl i l
      exact ⟨Or.inr ⟨i, l', e⟩, fun z => ne (ok.inj i j l' lj (e.symm.trans z))⟩
  have hv : ∀ v s, SvOk c.K (Nof c ad os) ad os.length H v s → SvOk c.K (Nof c ad ((os.set k (.dK (kvs.set i0 (kk, .i (.list ds))))).set j .x)) ad ((os.set k (.dK (kvs.set i0 (kk, .i (.list ds))))).set j .x).length H v s := fun v s h => by
    rw [len]
    exact h.sub fun a q => (hN a q).1
  obtain ⟨_, vs, hvs, pv⟩ := ok.obj j _ hj rfl
  have hd : Dn c.K (Nof c ad ((os.set k (.dK (kvs.set i0 (kk, .i (.list ds))))).set j .x)) H (.ref (ad j)) (.list ds) :=
    .lst (Or.inl hvs) (fun z => (hN _ z).2 rfl) ((paired_dn pv).sub fun a q => (hN a q).1)
  refine ⟨ok.len, ok.ex, ok.n0, fun i s h => ?_, fun i o h l => ?_, fun a b la lb => ok.inj a b (hl a la).1 (hl b lb).1, fun a la => ok.nn a (hl a la).1, fun p hp => (ok.frm p hp).sub fun a q => (hN a q).1, by rw [len]; exact ok.low⟩
  · obtain ⟨v, h1, h2⟩ := ok.val i s h
    exact ⟨v, h1, hv v s h2⟩
  · by_cases q : j = i
    · subst q
      rw [List.getElem?_set_self (by rw [List.length_set]; exact jl)] at h
      cases h; cases l
    · rw [List.getElem?_set_ne q] at h
      by_cases q2 : k = i
      · subst q2
        rw [List.getElem?_set_self kl] at h
        cases h
        obtain ⟨h1, ws, hws, pw⟩ := ok.obj k _ hk rfl
        refine ⟨h1, ws, hws, paired_setR pw (fun a b z => ⟨z.1, hv _ _ z.2⟩) fun a b e z => ?_⟩
        rw [hi] at e
        cases e
        obtain ⟨z1, z2, _⟩ := z
        refine ⟨z1, ?_⟩
        show Dn _ _ _ _ _
        rw [z2]
        exact hd
      · rw [List.getElem?_set_ne q2] at h
        obtain ⟨h1, h2⟩ := ok.obj i o h l
        exact ⟨h1, h2.map hv fun u e => e⟩
theorem gs_ownD {k j i0 : Nat} {kk : Key} {kvs : List (Key × SV)} {ds : List PyData} (hk : os[k]? = some (.dK kvs)) (hj : os[j]? = some (.lst (ds.map SV.i))) (hi : kvs[i0]? = some (kk, .r j)) (kj : k ≠ j) (g : Go c env ((os.set k (.dK (kvs.set i0 (kk, .i (.list ds))))).set j .x) u D) : Go c env os u D := fun ad σ H ok => g ad σ H (ok.ownD hk hj hi kj)
/-! ### a fresh dict is told by a def -/
def spI {α β : Type} (K : PySem.W.Frag) (ek : α → Key) (ev : β → PyData) (R : List PyData → List (α × β) → Prop) : Sp := fun vs H Q _ => ∃ (N : Addr → Prop) (ds : List PyData) (m : List (α × β)), (∀ a, N a → H a ≠ none) ∧ DnAll K N H vs ds ∧ R ds m ∧
  ∀ p H' ws, H p = none → Ex H H' → H' p = some (.dK ws) → Paired (fun (x : Key × V) (y : α × β) => x.1 = ek y.1 ∧ Dn K (fun a => N a ∨ a = p) H' x.2 (ev y.2)) ws m → Q (.ref p) H'
theorem ef_callI {R : List PyData → List (α × β) → Prop} {E : XK} {ta : TA} {ds : List PyData} (h : EvA false c env os ta ds) (hR : R ds m) : EvF c env os (tCall (spI c.K ek ev R) [] E ta) (.dK (m.map fun p => (ek p.1, SV.i (ev p.2)))) := fun ad σ H ok Q q =>
  h ad σ H ok _ fun vs H2 e a => by
    rw [List.append_nil]
    rw [Nw_false] at a
    exact ⟨Nof c ad os, ds, m, fun b z => (ok.ext e).nof z, a, hR, fun p H' ws hp e' h1 h2 => q p H' (e.free hp) (e.trans e') ⟨ws, h1, pairKi h2⟩⟩
theorem spI_len {K : PySem.W.Frag} {R : List PyData → List (α × β) → Prop} {n : Nat} (hR : ∀ ds d, R ds d → ds.length = n) : ∀ vs H Q E, spI K ek ev R vs H Q E → vs.length = n := fun vs H Q E ⟨N, ds, d, _, h, r, _⟩ => h.length.trans (hR ds d r)
def RetI (ek : α → Key) (ev : β → PyData) (c : Cn) (m : List (α × β)) (D : Ends) : Prop := ∀ p H2 ws, c.H0 p = none → (∀ a o, c.H0 a = some o → ¬ c.M a → H2 a = some o) → H2 p = some (.dK ws) → Paired (fun (x : Key × V) (y : α × β) => x.1 = ek y.1 ∧ Dn c.K (fun a => c.N0 a ∨ a = p) H2 x.2 (ev y.2)) ws m → D.rt (.ref p) H2
theorem gs_retI {k : Nat} (h : EvR c env os te k) (hk : os[k]? = some (.dK (m.map fun p => (ek p.1, SV.i (ev p.2))))) (hM : ∀ a, ¬ c.M a) (q : RetI ek ev c m D) : Go c env os (tSeq (tRet te) u) D := fun ad σ H ok =>
  h.2 ad σ H ok _ fun H2 e => by
    have ok2 := ok.ext e
    obtain ⟨h0, vs, h1, h2⟩ := ok2.obj k _ hk rfl
    refine q (ad k) H2 vs (h0.resolve_right (hM _)) ok2.ex h1 (Paired.imp (pairK h2) fun x y z => ⟨z.1, z.2.sub fun a y => ?_⟩)
    rcases y with y | y
    · exact Or.inl y
    · exact Or.inr ⟨k, ⟨_, hk, rfl⟩, y⟩
theorem run_spI {K : PySem.W.Frag} {R : List PyData → List (α × β) → Prop} {vs : List V} {H : Hp} {Q : VK} {E : XK} {Nm : List Str} {t : TS} (h : spI K ek ev R vs H Q E)
    (g : ∀ N ds m, R ds m → RetI ek ev ⟨K, H, N, fun _ => False, [], 0⟩ m (De Q) → Go ⟨K, H, N, fun _ => False, [], 0⟩ (env0 Nm.length ds) [] t (De Q)) : t (De Q) (L2.start Nm vs) H := by
  obtain ⟨N, ds, m, hN, hv, hR, hq⟩ := h
  exact g N ds m hR (fun p H2 ws hp e h1 h2 => hq p H2 ws hp (fun a o z => e a o z fun y => y) h1 h2) _ _ _ (ok_start hN hv)
/-! ### a walk over the keys -/
def EvW3 (c : Cn) (env : Sy) (os : List SO) (env2 : Sy) (os2 : List SO) (wi : TI) (n : Nat) (it : Nat → SV) (G : List SO → Prop) : Prop := ∀ ad σ H, Ok c ad env os σ H → ∀ R : It → Hp → Prop,
  (∀ J H1 fr, Ok (c.w fr os.length) ad env2 os2 σ H1 → (∀ ad' env' os' σ' H', Ok (c.w fr os.length) ad' env' os' σ' H' → Ok c ad' env' os' σ' H') → WalkD (c.w fr os.length) J n it G → R J H1) → wi σ H R
theorem set_at {γ : Type} {l : List γ} {i : Nat} {x : γ} (h : l[i]? = some x) : l.set i x = l := by
  obtain ⟨hl, e⟩ := List.getElem?_eq_some_iff.mp h
  rw [← e]
  exact List.set_getElem_self hl
/-- the keys of a dict of the store, which is data from then on -/
theorem ew_keysI {i k : Nat} (hi : env[i]? = some (some (.r k))) (hk : os[k]? = some (.dK (m.map fun p => (ek p.1, SV.i (ev p.2))))) : EvW3 c env os (env.set i (some (.i (dKd ek ev m)))) (os.set k .x) (iKeys (tFrz (tVar i))) m.length (itD (m.map fun p => kdat (ek p.1))) (fun _ => True) := fun ad σ H ok R q => by
  obtain ⟨v, hv, hr⟩ := ok.val i _ hi
  obtain ⟨rfl, _⟩ := (show v = .ref (ad k) ∧ k < os.length from hr)
  obtain ⟨_, ws, hws, pw⟩ := ok.obj k _ hk rfl
  have lk : Lv os k := ⟨_, hk, rfl⟩
  refine ⟨_, hv, ad k, _, rfl, hws, trivial, fun od => ⟨ad k, od, rfl, Or.inl ⟨ws, upd_same, ?_⟩⟩⟩
  have ok3 := ok.kill (u' := .frz od (.dK ws)) hk rfl
  have hN : ∀ a, Nof c ad (os.set k .x) a → Nof c ad os a ∧ a ≠ ad k := fun a h => by
    rcases h with h | ⟨j, l, e⟩
    · exact ⟨Or.inl h, fun z => ok.nn k lk (z ▸ h)⟩
    · obtain ⟨u, e1, hu⟩ := l
      by_cases q : k = j
      · subst q
        rw [List.getElem?_set_self (List.getElem?_eq_some_iff.mp hk).1] at e1
        cases e1; cases hu
      · rw [List.getElem?_set_ne q] at e1
        exact ⟨Or.inr ⟨j, ⟨u, e1, hu⟩, e⟩, fun z => q (ok.inj k j lk ⟨u, e1, hu⟩ (z.symm.trans e))⟩
  have hd : Dn c.K (Nof c ad (os.set k .x)) (upd H (ad k) (.frz od (.dK ws))) (.ref (ad k)) (dKd ek ev m) :=
    dK_dn (Or.inr ⟨od, upd_same⟩) (fun z => (hN _ z).2 rfl) (Paired.imp (pairK pw) fun x y z => ⟨z.1, (Dn.mut hws rfl (Or.inr ⟨k, lk, rfl⟩) z.2).sub fun a y => (hN a y).1⟩)
  have ok4 := ok3.set (i := i) (v := .ref (ad k)) (s := .i (dKd ek ev m)) hd
  rw [set_at hv] at ok4
  have hp := ok4.pin (v := .ref (ad k)) (s := .t (.frz od (.dK ws))) ⟨ad k, rfl, upd_same, rfl⟩
  have hu := up_pin (v := .ref (ad k)) (s := .t (.frz od (.dK ws))) ok4
  rw [List.length_set] at hp hu
  have len : ws.length = m.length := Paired.length (pairK pw)
  have at' : ∀ {ad' env' os' σ' H'}, Ok (c.w ((.ref (ad k), .t (.frz od (.dK ws))) :: c.fr) os.length) ad' env' os' σ' H' → H' (ad k) = some (.frz od (.dK ws)) := fun o => by
    obtain ⟨b, e1, e2, _⟩ := o.frm _ (List.mem_cons_self ..)
    cases e1
    exact e2
  refine q _ _ _ hp hu ⟨fun i ad env os σ H hi o _ => ⟨at' o, by rw [len]; exact hi⟩, fun ad env os σ H o _ => ⟨at' o, by rw [len]; exact Nat.le_refl _⟩, fun i ad env os σ H x H' hi o _ y => ?_⟩
  obtain ⟨rfl, kx, vx, h1, rfl⟩ := y
  refine ⟨Ex.refl _, ?_⟩
  obtain ⟨b, h3, h4, _⟩ := paired_getL (pairK pw) h1
  rw [itD_at (d := kdat (ek b.1)) (by rw [List.getElem?_map, h3]; rfl)]
  show Dn _ _ _ _ _
  have h4 : kx = ek b.1 := h4
  rw [← h4]
  exact key_dn kx
/-- a for, as gs_forP with the walk taking what it goes over -/
theorem gs_for3 {g : TG} {tb u : TS} {D : Ends} {wi : TI} {n : Nat} {it : Nat → SV} {G : List SO → Prop} {env2 : Sy} {os2 : List SO} (E : Nat → Sy) (O : Nat → List SO) (hw : EvW3 c env os env2 os2 wi n it G)
    (h0 : ∀ c' : Cn, c'.lo = os.length → ∀ ad σ H, Ok c' ad env2 os2 σ H → Ok c' ad (E 0) (O 0) σ H) (hG : ∀ i, i ≤ n → G (O i))
    (hs : ∀ fr, Up c (c.w fr os.length) → ∀ i, i < n → ∃ env' js, Tg (c.w fr os.length) (E i) (O i) g (it i) env' js ∧ Go (c.w fr os.length) env' (O i) tb { D with nx := OkE (c.w fr os.length) (E (i + 1)) (O (i + 1)), ct := OkE (c.w fr os.length) (E (i + 1)) (O (i + 1)), bk := u D })
    (hd : Go c (E n) (O n) u D) : Go c env os (tSeq (tFor wi g tb) u) D := fun ad σ H ok => by
  refine hw ad σ H ok _ fun J H1 fr ok1 up W => ?_
  refine ⟨fun i m σ H => m = n - i ∧ i ≤ n ∧ OkE (c.w fr os.length) (E i) (O i) σ H, ⟨n, by simp, Nat.zero_le _, ad, h0 _ rfl ad σ H1 ok1⟩, ?_⟩
  rintro i m σ H ⟨rfl, hi, ad', ok'⟩
  by_cases hlt : i < n
  · refine .inr ⟨W.goes i _ _ _ _ _ hlt ok' (hG i hi), OkE (c.w fr os.length) (E (i + 1)) (O (i + 1)), fun σ' H' p' => ⟨n - (i + 1), by omega, rfl, hlt, p'⟩, fun x H' y => ?_⟩
    obtain ⟨e2, r⟩ := W.yields i _ _ _ _ _ x H' hlt ok' (hG i hi) y
    obtain ⟨env', js, ht, hb⟩ := hs fr up i hlt
    exact ht ad' σ H' x (ok'.ext e2) r _ fun σ2 ok2 _ => hb ad' σ2 H' ok2
  · have q : i = n := by omega
    subst q
    exact .inl ⟨W.stops _ _ _ _ _ ok' (hG i hi), hd ad' σ H (up _ _ _ _ _ ok')⟩
end
end DL

set_option Elab.async false
set_option linter.all false
set_option maxRecDepth 100000
set_option maxHeartbeats 2000000
/-! The data layer: a state [numbers, number, number] of the caller that defs draw from and change. -/
namespace DL
open PySem PySem.Spec PyProof.Rows L2
open Evl (Ex Ex.refl Ex.trans Ex.new)
def Stt (H : Hp) (s b : Addr) : Prop := ∃ (ns : List Int) (a m : Int), H b = some (.lst (ns.map V.int)) ∧ H s = some (.lst [.ref b, .int a, .int m])
theorem Stt.ne {H : Hp} {s b : Addr} (h : Stt H s b) : s ≠ b := by
  obtain ⟨ns, a, m, h1, h2⟩ := h
  intro e
  subst e
  rw [h1] at h2
  cases ns with
  | nil => cases h2
  | cons n ns => cases h2
section
variable {w : Bool} {c : Cn} {env : Sy} {os : List SO} {te ta tb tl t1 t2 : TE} {tr : TA} {u : TS} {D : Ends} {P PA PB : PyData → Prop} {ad : Nat → Addr} {σ : L2.St} {H H' : Hp}
theorem Ok.chg {ks ki : Nat} (ok : Ok c ad env os σ H) (hs : os[ks]? = some (.stt ki)) (hb : os[ki]? = some .nums) (hch : ∀ a u, H a = some u → a ≠ ad ks → a ≠ ad ki → H' a = some u) (st : Stt H' (ad ks) (ad ki)) : Ok c ad env os σ H' := by
  have ls : Lv os ks := ⟨_, hs, rfl⟩
  have lb : Lv os ki := ⟨_, hb, rfl⟩
  have Ns : Nof c ad os (ad ks) := Or.inr ⟨ks, ls, rfl⟩
  have Nb : Nof c ad os (ad ki) := Or.inr ⟨ki, lb, rfl⟩
  obtain ⟨ms, us, es, ws⟩ : (c.H0 (ad ks) = none ∨ c.M (ad ks)) ∧ ∃ u, H (ad ks) = some u ∧ Wr u = true := ⟨(ok.obj ks _ hs rfl).1, (ok.obj ks _ hs rfl).2.some rfl⟩
  obtain ⟨mb, ub, eb, wb⟩ : (c.H0 (ad ki) = none ∨ c.M (ad ki)) ∧ ∃ u, H (ad ki) = some u ∧ Wr u = true := ⟨(ok.obj ki _ hb rfl).1, (ok.obj ki _ hb rfl).2.some rfl⟩
  have hnw : ∀ a x, H a = some x → Wr x = false → H' a = some x := fun a x e hw => hch a x e (fun z => by subst z; rw [es] at e; cases e; rw [ws] at hw; cases hw) (fun z => by subst z; rw [eb] at e; cases e; rw [wb] at hw; cases hw)
  have hout : ∀ a x, H a = some x → ¬ Nof c ad os a → H' a = some x := fun a x e n => hch a x e (fun z => n (z ▸ Ns)) (fun z => n (z ▸ Nb))
  have hrd : ∀ a x, Rd H a x → ¬ Nof c ad os a → Rd H' a x ∧ ¬ Nof c ad os a := fun a x r n => ⟨by
    rcases r with r | ⟨o, r⟩
    · exact Or.inl (hout a x r n)
    · exact Or.inr ⟨o, hout a _ r n⟩, n⟩
  have hsq : ∀ a xs, SqT c.K H a xs → SqT c.K H' a xs := fun a xs r => by
    rcases r with (r | ⟨o, r⟩) | r
    · exact Or.inl (Or.inl (hnw a _ r rfl))
    · exact Or.inl (Or.inr ⟨o, hnw a _ r rfl⟩)
    · exact Or.inr r
  have hv : ∀ n v s, SvOk c.K (Nof c ad os) ad n H v s → SvOk c.K (Nof c ad os) ad n H' v s := fun n v s h => by
    cases s with
    | i d => exact Dn.go hrd hout hsq d v h
    | t x => obtain ⟨b, e1, e2, e3⟩ := h; exact ⟨b, e1, hnw b _ e2 e3, e3⟩
    | ob C m => obtain ⟨a, dx, fs, e1, e2, e3, e4⟩ := h; exact ⟨a, dx, fs, e1, hout a _ e2 e3, e3, Paired.imp e4 fun _ _ z => ⟨z.1, Dn.go hrd hout hsq _ _ z.2⟩⟩
    | r k => exact h
  refine ⟨ok.len, fun a o h m => ?_, fun a h => ?_, fun i s h => ?_, fun k o h l => ?_, ok.inj, ok.nn, fun p hp => hv _ _ _ (ok.frm p hp), ok.low⟩
  · refine hch a o (ok.ex a o h m) (fun z => ?_) (fun z => ?_)
    · subst z
      rcases ms with z | z
      · rw [z] at h; cases h
      · exact m z
    · subst z
      rcases mb with z | z
      · rw [z] at h; cases h
      · exact m z
  · cases e : H a with
    | none => exact absurd e (ok.n0 a h)
    | some x =>
      rw [hch a x e (fun z => ok.nn ks ls (z ▸ h)) (fun z => ok.nn ki lb (z ▸ h))]
      exact fun z => nomatch z
  · obtain ⟨v, h1, h2⟩ := ok.val i s h
    exact ⟨v, h1, hv _ v s h2⟩
  · obtain ⟨ns, a, m, z1, z2⟩ := st
    by_cases q1 : k = ks
    · subst q1
      rw [hs] at h; cases h
      exact ⟨ms, _, a, m, z2, rfl, (List.getElem?_eq_some_iff.mp hb).1⟩
    · by_cases q2 : k = ki
      · subst q2
        rw [hb] at h; cases h
        exact ⟨mb, ns, z1⟩
      · obtain ⟨h1, h2⟩ := ok.obj k o h l
        exact ⟨h1, h2.map (hv _) fun x e => hch _ x e (fun z => q1 (ok.inj k ks ⟨o, h, l⟩ ls z)) (fun z => q2 (ok.inj k ki ⟨o, h, l⟩ lb z))⟩
/-- an object of the store is told otherwise -/
theorem Ok.reset {o o' : SO} {k : Nat} (ok : Ok c ad env os σ H) (h0 : os[k]? = some o) (l0 : o.live = true) (l : o'.live = true) (ho : SoOk c.K (Nof c ad os) ad os.length H (ad k) o') : Ok c ad env (os.set k o') σ H := by
  obtain ⟨x, e, _⟩ := (ok.obj k o h0 l0).2.some l0
  have hu : upd H (ad k) x = H := by
    funext a
    by_cases q : a = ad k
    · rw [q, upd_same, e]
    · rw [upd_ne q]
  have := ok.mut (u' := x) h0 l0 l (by rw [hu]; exact ho)
  rwa [hu] at this
/-! ### the promise -/
def spM (K : PySem.W.Frag) (R : List PyData → PyData → Prop) : Sp := fun vs H Q _ => ∃ (N : Addr → Prop) (s b : Addr) (rest : List V) (ds : List PyData), vs = .ref s :: rest ∧ Stt H s b ∧ ¬ N s ∧ ¬ N b ∧ (∀ a, N a → H a ≠ none) ∧ DnAll K (fun a => N a ∨ a = s ∨ a = b) H rest ds ∧ (∃ d, R ds d) ∧
  ∀ v H' d, R ds d → (∀ a x, H a = some x → a ≠ s → a ≠ b → H' a = some x) → Stt H' s b → Dn K (fun a => N a ∨ a = s ∨ a = b) H' v d → Q v H'
theorem spM_len {K : PySem.W.Frag} {R : List PyData → PyData → Prop} {n : Nat} (hR : ∀ ds d, R ds d → ds.length = n) : ∀ vs H Q E, spM K R vs H Q E → vs.length = n + 1 := fun vs H Q E ⟨N, s, b, rest, ds, e, _, _, _, _, h, ⟨d, r⟩, _⟩ => by rw [e, List.length_cons, h.length, hR ds d r]
/-- te gives data with P; the state may be drawn from -/
def EvM (c : Cn) (env : Sy) (os : List SO) (te : TE) (P : PyData → Prop) : Prop := ∀ ad σ H, Ok c ad env os σ H → ∀ Q : VK, (∀ v H2 d, P d → Ok c ad env os σ H2 → Dn c.K (Nof c ad os) H2 v d → Q v H2) → te σ H Q
def EvAM (c : Cn) (env : Sy) (os : List SO) (ta : TA) (P : List PyData → Prop) : Prop := ∀ ad σ H, Ok c ad env os σ H → ∀ Q : List V → Hp → Prop, (∀ vs H2 ds, P ds → Ok c ad env os σ H2 → DnAll c.K (Nof c ad os) H2 vs ds → Q vs H2) → ta σ H Q
theorem em_x {d : PyData} (h : EvX false c env os te d) (hP : P d) : EvM c env os te P := fun ad σ H ok Q q => h ad σ H ok Q fun v H2 e r => q v H2 d hP (ok.ext e) (by rw [Nw_false] at r; exact r)
theorem EvM.imp (h : EvM c env os te PA) (f : ∀ d, PA d → P d) : EvM c env os te P := fun ad σ H ok Q q => h ad σ H ok Q fun v H2 d p => q v H2 d (f d p)
theorem em_call {R : List PyData → PyData → Prop} {E : XK} {ks ki i : Nat} {ds : List PyData} (hi : env[i]? = some (some (.r ks))) (hs : os[ks]? = some (.stt ki)) (hb : os[ki]? = some .nums) (h : EvA false c env os tr ds) (hR : ∃ d, R ds d) : EvM c env os (tCall (spM c.K R) [] E (tCons (tVar i) tr)) (R ds) := fun ad σ H ok Q q => by
  obtain ⟨v, hv, hr⟩ := ok.val i _ hi
  obtain ⟨rfl, _⟩ := (show v = .ref (ad ks) ∧ ks < os.length from hr)
  refine ⟨_, hv, h ad σ H ok _ fun vs H2 e a => ?_⟩
  rw [Nw_false] at a
  have ok2 := ok.ext e
  have ls : Lv os ks := ⟨_, hs, rfl⟩
  have lb : Lv os ki := ⟨_, hb, rfl⟩
  obtain ⟨_, v2, x, m, e2, e3, _⟩ := ok2.obj ks _ hs rfl
  obtain ⟨_, ns, e4⟩ := ok2.obj ki _ hb rfl
  subst e3
  have hN : ∀ b, (Nof c ad os b ∧ b ≠ ad ks ∧ b ≠ ad ki) ∨ b = ad ks ∨ b = ad ki → Nof c ad os b := fun b z => by
    rcases z with z | z | z
    · exact z.1
    · rw [z]; exact Or.inr ⟨ks, ls, rfl⟩
    · rw [z]; exact Or.inr ⟨ki, lb, rfl⟩
  have hN2 : ∀ b, Nof c ad os b → (Nof c ad os b ∧ b ≠ ad ks ∧ b ≠ ad ki) ∨ b = ad ks ∨ b = ad ki := fun b z => by
    by_cases q1 : b = ad ks
    · exact Or.inr (Or.inl q1)
    · by_cases q2 : b = ad ki
      · exact Or.inr (Or.inr q2)
      · exact Or.inl ⟨z, q1, q2⟩
  refine ⟨fun b => Nof c ad os b ∧ b ≠ ad ks ∧ b ≠ ad ki, ad ks, ad ki, vs, ds, by simp, ⟨ns, x, m, e4, e2⟩, fun z => z.2.1 rfl, fun z => z.2.2 rfl, fun b z => ok2.nof z.1, a.sub hN, hR, fun v H' d hd hch st r => q v H' d hd (ok2.chg hs hb hch st) (r.sub hN2)⟩
/-! ### one thing behind the other -/
theorem ex_pin {v : V} {d : PyData} (h : (v, SV.i d) ∈ c.fr) : EvX w c env os (tC v) d := EvX.weak fun ad σ H ok Q q => q v H (Ex.refl H) (by
  rw [Nw_false]
  exact ok.frm _ h)
theorem em_op {r : R2} (ha : EvM c env os ta PA) (h : ∀ v d, PA d → EvM (c.w ((v, .i d) :: c.fr) os.length) env os (tOp r (tC v) tb) P) : EvM c env os (tOp r ta tb) P := fun ad σ H ok Q q =>
  ha ad σ H ok _ fun v H1 d p ok1 r1 => h v d p ad σ H1 (ok1.pin (s := .i d) r1) Q fun v2 H2 d2 p2 ok2 r2 => q v2 H2 d2 p2 (up_pin (v := v) (s := .i d) ok1 _ _ _ _ _ ok2) r2
theorem em_op2 {r : R2} {v0 : V} (hb : EvM c env os tb PB) (h : ∀ v d, PB d → EvM (c.w ((v, .i d) :: c.fr) os.length) env os (tOp r (tC v0) (tC v)) P) : EvM c env os (tOp r (tC v0) tb) P := fun ad σ H ok Q q =>
  hb ad σ H ok _ fun v H1 d p ok1 r1 => h v d p ad σ H1 (ok1.pin (s := .i d) r1) Q fun v2 H2 d2 p2 ok2 r2 => q v2 H2 d2 p2 (up_pin (v := v) (s := .i d) ok1 _ _ _ _ _ ok2) r2
theorem eam_a {ds : List PyData} {PP : List PyData → Prop} (h : EvA false c env os tr ds) (hP : PP ds) : EvAM c env os tr PP := fun ad σ H ok Q q => h ad σ H ok Q fun vs H2 e r => q vs H2 ds hP (ok.ext e) (by rw [Nw_false] at r; exact r)
theorem eam_cons {PP : List PyData → Prop} (h : EvM c env os te PA) (hr : ∀ v d, PA d → EvAM (c.w ((v, .i d) :: c.fr) os.length) env os tr (fun ds => PP (d :: ds))) : EvAM c env os (tCons te tr) PP := fun ad σ H ok Q q =>
  h ad σ H ok _ fun v H1 d p ok1 r1 => hr v d p ad σ H1 (ok1.pin (s := .i d) r1) _ fun vs H2 ds p2 ok2 r2 => q _ H2 (d :: ds) p2 (up_pin (v := v) (s := .i d) ok1 _ _ _ _ _ ok2) (.cons (ok2.frm (v, .i d) (List.mem_cons_self ..)) r2)
theorem em_lst {PP : List PyData → Prop} (h : EvAM c env os tr PP) (hl : ∀ ds, PP ds → ds.length ≤ 100000) : EvM c env os (tLst tr) (fun d => ∃ ds, d = .list ds ∧ PP ds) := fun ad σ H ok Q q =>
  h ad σ H ok _ fun vs H2 ds p ok2 r => ⟨Nat.le_trans (by rw [r.length]; exact hl ds p) (by decide), fun l hl => q _ _ (.list ds) ⟨ds, rfl, p⟩ (ok2.ext (Ex.new hl)) (.lst (Or.inl upd_same) (fun z => ok2.nof z hl) (r.ext (Ex.new hl)))⟩
theorem em_tup {PP : List PyData → Prop} (h : EvAM c env os tr PP) (hl : ∀ ds, PP ds → ds.length ≤ 100000) : EvM c env os (tTup tr) (fun d => ∃ ds, d = .tuple ds ∧ PP ds) := fun ad σ H ok Q q =>
  h ad σ H ok _ fun vs H2 ds p ok2 r => ⟨Nat.le_trans (by rw [r.length]; exact hl ds p) (by decide), fun l hl => q _ _ (.tuple ds) ⟨ds, rfl, p⟩ (ok2.ext (Ex.new hl)) (.tup (SqT.of upd_same) (r.ext (Ex.new hl)))⟩
/-- a call with one argument that draws -/
theorem em_call1 {R : List PyData → PyData → Prop} {E : XK} (h : EvM c env os te PA) (hR : ∀ d, PA d → ∃ e, R [d] e ∧ P e) : EvM c env os (tCall (spD c.K R) [] E (tCons te tNil)) P := fun ad σ H ok Q q =>
  h ad σ H ok _ fun v H1 d p ok1 r1 => by
    obtain ⟨e, h1, h2⟩ := hR d p
    show spD c.K R ([v] ++ []) H1 Q E
    rw [List.append_nil]
    exact ⟨Nof c ad os, [d], e, fun b z => ok1.nof z, .cons r1 .nil, h1, fun v' H' e' r => q v' H' e h2 (ok1.ext e') r⟩
/-! ### statements -/
theorem gs_asgM {i : Nat} (h : EvM c env os te P) (k : ∀ d, P d → Go c (env.set i (some (.i d))) os u D) : Go c env os (tSeq (tAsg te (gName i)) u) D := fun ad σ H ok =>
  h ad σ H ok _ fun v H2 d p ok2 r => k d p ad _ H2 (ok2.set (s := .i d) r)
def RetM (c : Cn) (R : List PyData → PyData → Prop) (ds : List PyData) (D : Ends) : Prop := ∀ ad env os σ v H2 d, Ok c ad env os σ H2 → os[0]? = some .nums → os[1]? = some (.stt 0) → R ds d → Dn c.K (Nof c ad os) H2 v d → D.rt v H2
theorem gs_retM {R : List PyData → PyData → Prop} {ds : List PyData} (h : EvM c env os te P) (k : RetM c R ds D) (h0 : os[0]? = some .nums) (h1 : os[1]? = some (.stt 0)) (hP : ∀ d, P d → R ds d) : Go c env os (tSeq (tRet te) u) D := fun ad σ H ok =>
  h ad σ H ok _ fun v H2 d p ok2 r => k ad env os σ v H2 d ok2 h0 h1 (hP d p) r
theorem RetM.up {R : List PyData → PyData → Prop} {ds : List PyData} {fr : List (V × SV)} {n : Nat} (k : RetM c R ds D) (up : Up c (c.w fr n)) : RetM (c.w fr n) R ds D := fun ad env os σ v H2 d ok h0 h1 hd r => k ad env os σ v H2 d (up _ _ _ _ _ ok) h0 h1 hd r
def env1 (n : Nat) (ds : List PyData) : Sy := some (.r 1) :: env0 (n - 1) ds
theorem ok_startM {K : PySem.W.Frag} {N : Addr → Prop} {s b : Addr} {vs : List V} {ds : List PyData} {Nm : List Str} (hN : ∀ a, N a → H a ≠ none) (st : Stt H s b) (hs : ¬ N s) (hb : ¬ N b) (h : DnAll K (fun a => N a ∨ a = s ∨ a = b) H vs ds) (hn : Nm ≠ []) :
    Ok ⟨K, H, N, fun a => a = s ∨ a = b, [(.ref s, .r 1), (.ref b, .r 0)], 2⟩ (fun k => if k = 0 then b else s) (env1 Nm.length ds) [.nums, .stt 0] (L2.start Nm (.ref s :: vs)) H := by
  have ne := st.ne
  obtain ⟨ns, a, m, e1, e2⟩ := st
  have lv : ∀ k, Lv [SO.nums, SO.stt 0] k → k = 0 ∨ k = 1 := fun k ⟨o, e, _⟩ => by
    have := (List.getElem?_eq_some_iff.mp e).1
    simp at this; omega
  have hN2 : ∀ x, Nof ⟨K, H, N, fun a => a = s ∨ a = b, [(.ref s, .r 1), (.ref b, .r 0)], 2⟩ (fun k => if k = 0 then b else s) [.nums, .stt 0] x → N x ∨ x = s ∨ x = b := fun x z => by
    rcases z with z | ⟨k, l, z⟩
    · exact Or.inl z
    · rcases lv k l with q | q
      · subst q; exact Or.inr (Or.inr z)
      · subst q; exact Or.inr (Or.inl z)
  have hl : 0 < Nm.length := List.length_pos_iff.mpr hn
  have hlen := h.length
  refine ⟨?_, fun a o e _ => e, hN, fun i t e => ?_, fun k o e l => ?_, fun k j hk hj q => ?_, fun k hk => ?_, fun p hp => ?_, Nat.le_refl _⟩
  · unfold L2.start env1 env0; simp [hlen]; omega
  · unfold env1 at e
    cases i with
    | zero =>
      simp at e
      subst e
      exact ⟨.ref s, by simp [L2.start], rfl, by simp⟩
    | succ i =>
      rw [List.getElem?_cons_succ] at e
      unfold env0 at e
      by_cases hi : i < ds.length
      · rw [List.getElem?_append_left (by simpa using hi), List.getElem?_map] at e
        cases hd : ds[i]? with
        | none => rw [hd] at e; cases e
        | some d =>
          rw [hd] at e
          cases e
          obtain ⟨v, h1, h2⟩ := h.get hd
          refine ⟨v, ?_, Dn.sub hN2 h2⟩
          unfold L2.start
          rw [List.getElem?_append_left (by simp [hlen]; omega), List.getElem?_map, List.getElem?_cons_succ, h1]
          rfl
      · rw [List.getElem?_append_right (by simpa using hi)] at e
        rw [List.getElem?_replicate] at e
        split at e <;> cases e
  · rcases lv k ⟨o, e, l⟩ with q | q
    · subst q
      cases e
      exact ⟨Or.inr (Or.inr rfl), ns, e1⟩
    · subst q
      cases e
      exact ⟨Or.inr (Or.inl rfl), .ref b, a, m, e2, rfl, by simp⟩
  · rcases lv k hk with q1 | q1 <;> rcases lv j hj with q2 | q2 <;> subst q1 q2
    · rfl
    · exact absurd q.symm ne
    · exact absurd q ne
    · rfl
  · rcases lv k hk with q | q <;> subst q
    · exact hb
    · exact hs
  · rcases List.mem_cons.mp hp with z | z
    · subst z; exact ⟨rfl, Nat.lt_succ_self 1⟩
    · rw [List.mem_singleton.mp z]; exact ⟨rfl, Nat.succ_pos 1⟩
theorem run_spM {K : PySem.W.Frag} {R : List PyData → PyData → Prop} {vs : List V} {Q : VK} {E : XK} {Nm : List Str} {t : TS} (h : spM K R vs H Q E) (hn : Nm ≠ [])
    (g : ∀ (N : Addr → Prop) (s b : Addr) ds, (∃ d, R ds d) → RetM ⟨K, H, N, fun a => a = s ∨ a = b, [(.ref s, .r 1), (.ref b, .r 0)], 2⟩ R ds (De Q) → Go ⟨K, H, N, fun a => a = s ∨ a = b, [(.ref s, .r 1), (.ref b, .r 0)], 2⟩ (env1 Nm.length ds) [.nums, .stt 0] t (De Q)) : t (De Q) (L2.start Nm vs) H := by
  obtain ⟨N, s, b, rest, ds, rfl, st, hs, hb, hN, ha, hR, hq⟩ := h
  refine g N s b ds hR (fun ad env os σ v H2 d ok h0 h1 hd r => ?_) _ _ _ (ok_startM hN st hs hb ha hn)
  obtain ⟨f1, _⟩ := (show V.ref s = .ref (ad 1) ∧ _ from ok.frm (.ref s, .r 1) (List.mem_cons_self ..))
  obtain ⟨f0, _⟩ := (show V.ref b = .ref (ad 0) ∧ _ from ok.frm (.ref b, .r 0) (List.mem_cons_of_mem _ (List.mem_cons_self ..)))
  have f1 := V.ref.inj f1
  have f0 := V.ref.inj f0
  obtain ⟨_, ns, e0⟩ := ok.obj 0 _ h0 rfl
  obtain ⟨_, v2, a, m, e1, e2, _⟩ := ok.obj 1 _ h1 rfl
  subst e2
  refine hq v H2 d hd (fun x o e n1 n2 => ok.ex x o e fun z => z.elim n1 n2) ⟨ns, a, m, by rw [f0]; exact e0, by rw [f1, f0]; exact e1⟩ (r.sub fun x z => ?_)
  rcases z with z | z | z
  · exact Or.inl z
  · rw [z, f1]; exact Or.inr ⟨1, ⟨_, h1, rfl⟩, rfl⟩
  · rw [z, f0]; exact Or.inr ⟨0, ⟨_, h0, rfl⟩, rfl⟩
/-- the state is looked into -/
theorem gs_open01 (k : ∀ (ns : List Int) (a m : Int), Go c env [.lst ((ns.map PyData.int).map SV.i), .lst [.r 0, .i (.int a), .i (.int m)]] u D) : Go c env [.nums, .stt 0] u D := fun ad σ H ok => by
  obtain ⟨_, ns, e0⟩ := ok.obj 0 _ rfl rfl
  obtain ⟨_, v2, a, m, e1, e2⟩ := ok.obj 1 _ rfl rfl
  have ok1 := ok.reset (k := 0) (o' := .lst ((ns.map PyData.int).map SV.i)) rfl rfl rfl ⟨_, e0, dn_paired (ints_dn ns)⟩
  have ok2 := ok1.reset (k := 1) (o' := .lst [.r 0, .i (.int a), .i (.int m)]) rfl rfl rfl ⟨_, e1, .cons e2 (.cons (Dn.int a) (.cons (Dn.int m) .nil))⟩
  exact k ns a m ad σ H ok2
theorem gs_close01 {ns : List Int} {a m : Int} (k : Go c env [.nums, .stt 0] u D) : Go c env [.lst ((ns.map PyData.int).map SV.i), .lst [.r 0, .i (.int a), .i (.int m)]] u D := fun ad σ H ok => by
  obtain ⟨_, vs, e0, p0⟩ := ok.obj 0 _ rfl rfl
  obtain ⟨_, ws, e1, p1⟩ := ok.obj 1 _ rfl rfl
  have ev : vs = ns.map V.int := (paired_dn p0).ints
  have ok1 := ok.reset (k := 0) (o' := .nums) rfl rfl rfl ⟨ns, by rw [← ev]; exact e0⟩
  refine k ad σ H (ok1.reset (k := 1) (o' := .stt 0) rfl rfl rfl ?_)
  cases p1 with
  | cons q1 p1 =>
    cases p1 with
    | cons q2 p1 =>
      cases p1 with
      | cons q3 p1 =>
        cases p1
        cases (show Dn _ _ _ _ _ from q2)
        cases (show Dn _ _ _ _ _ from q3)
        exact ⟨_, a, m, e1, q1⟩
theorem er_ixO {k j : Nat} {ss : List SV} {i : Int} (hl : EvR c env os ta k) (hk : os[k]? = some (.lst ss)) (hi : EvX true c env os tb (.int i)) (hd : atI ss i = some (.r j)) (hj : j < os.length) : EvR c env os (tOp (rIxL c.K) ta tb) j := ⟨hj, fun ad σ H ok Q q =>
  hl.2 ad σ H ok _ fun H1 e1 => hi ad σ H1 (ok.ext e1) _ fun y H2 e2 r2 => by
    cases dn_int r2
    obtain ⟨_, vs, h1, h2⟩ := ((ok.ext e1).ext e2).obj k _ hk rfl
    obtain ⟨v, h3, h4⟩ := paired_at h2 hd
    obtain ⟨rfl, _⟩ := (show v = .ref (ad j) ∧ _ from h4)
    exact ⟨ad k, vs, i, _, rfl, rfl, SqL.of h1, h3, q H2 (e1.trans e2)⟩⟩
/-- x = xs.pop(0) -/
theorem gs_asgPop0 {i k : Nat} {d : PyData} {ss : List SV} (hl : EvR c env os tl k) (hk : os[k]? = some (.lst (.i d :: ss))) (h0 : EvX true c env os te (.int 0)) (g : Go c (env.set i (some (.i d))) (os.set k (.lst ss)) u D) : Go c env os (tSeq (tAsg (tBM c.K "list" rPopAt tl (tCons te tNil)) (gName i)) u) D := fun ad σ H ok =>
  hl.2 ad σ H ok _ fun H1 e1 => by
    obtain ⟨_, vs1, hvs1, _⟩ := (ok.ext e1).obj k _ hk rfl
    refine ⟨Or.inl ⟨rfl, vs1, SqL.of hvs1⟩, h0 ad σ H1 (ok.ext e1) _ fun v2 H2 e2 r2 => ?_⟩
    cases dn_int r2
    have ok2 := (ok.ext e1).ext e2
    obtain ⟨_, vs, hvs, pv⟩ := ok2.obj k _ hk rfl
    have hN : Nof c ad os (ad k) := Or.inr ⟨k, ⟨_, hk, rfl⟩, rfl⟩
    cases pv with
    | cons q1 pv =>
      rename_i y ys
      refine ⟨ad k, _, 0, 0, y, rfl, rfl, hvs, by decide, by decide, by simp [seqIndex?], rfl, ?_⟩
      have ok3 := ok2.mut (u' := .lst ys) hk rfl (o' := .lst ss) rfl ⟨ys, upd_same, Paired.imp pv fun _ _ z => z.mut hvs rfl hN⟩
      refine g ad _ _ (ok3.set (s := .i d) ?_)
      rw [Nof_set hk rfl rfl]
      exact Dn.mut hvs rfl hN q1
/-- state = [list(..), a, m] -/
theorem gs_asgSt {i : Nat} {ns : List Int} {a m : Int} (hl : EvF c env os tl (.lst ((ns.map PyData.int).map SV.i))) (h1 : EvX true c env os t1 (.int a)) (h2 : EvX true c env os t2 (.int m)) (g : Go c (env.set i (some (.r (os.length + 1)))) (os ++ [.nums] ++ [.stt os.length]) u D) :
    Go c env os (tSeq (tAsg (tLst (tCons tl (tCons t1 (tCons t2 tNil)))) (gName i)) u) D := fun ad σ H ok =>
  hl ad σ H ok _ fun p H1 hp e1 r => h1 ad σ H1 (ok.ext e1) _ fun v1 H2 e2 r1 => h2 ad σ H2 ((ok.ext e1).ext e2) _ fun v2 H3 e3 r2 => by
    have fresh : ∀ (ad' : Nat → Addr) (env' : Sy) (os' : List SO) (q : Addr) (σ' : L2.St) (H' : Hp), Ok c ad' env' os' σ' H' → H' q = none → c.H0 q = none ∨ c.M q := fun ad' env' os' q σ' H' ok hq => by
      by_cases hm : c.M q
      · exact Or.inr hm
      · refine Or.inl ?_
        cases hz : c.H0 q with
        | none => rfl
        | some o => rw [ok.ex q o hz hm] at hq; cases hq
    obtain ⟨vs, e0, p0⟩ := r
    have ev : vs = ns.map V.int := (paired_dn p0).ints
    have ok1 := ok.new (o := .nums) hp e1 (fresh _ _ _ _ _ _ ok hp) ⟨ns, by rw [← ev]; exact e0⟩
    have ok3 := (ok1.ext e2).ext e3
    cases dn_int r1
    cases dn_int r2
    refine ⟨Nat.le_of_ble_eq_true rfl, fun q hq => ?_⟩
    have ok4 := ok3.new (o := .stt os.length) hq (Ex.new hq) (fresh _ _ _ _ _ _ ok3 hq) ⟨.ref p, a, m, upd_same, by rw [adN_same], by simp⟩
    refine g _ _ _ (ok4.set (v := .ref q) (s := .r (os.length + 1)) ⟨?_, by simp⟩)
    have : (os ++ [SO.nums]).length = os.length + 1 := by simp
    rw [← this, adN_same]
end
end DL

set_option Elab.async false
set_option linter.all false
set_option maxRecDepth 100000
set_option maxHeartbeats 2000000
/-! The data layer: a dict of the module with text keys. -/
namespace DL
open PySem PySem.Spec PyProof.Rows L2
open Evl (Ex Ex.refl Ex.trans Ex.new)
/-! ### what is looked at -/
mutual
def datB (K : PySem.W.Frag) : PyData → Value → Bool
  | .int i, .int j _ => decide (i = j)
  | .bool b, .bool c => b == c
  | .str x, .str y _ => decide (x = y)
  | .tuple ds, .ref a => match K.lookup a with
    | some ⟨.type c, _, .seq its _, _⟩ => decide (c = "tuple") && (decide (its.size ≤ sizeLine) && datsB K ds its.toList)
    | _ => false
  | _, _ => false
def datsB (K : PySem.W.Frag) : List PyData → List Value → Bool
  | [], [] => true
  | d :: ds, v :: vs => datB K d v && datsB K ds vs
  | _, _ => false
end
mutual
theorem datB_ok {K : PySem.W.Frag} : ∀ (d : PyData) (u : Value), datB K d u = true → ∃ v, RelV v u ∧ ∀ N H, Dn K N H v d
  | .none, u, h => by unfold datB at h; cases u <;> cases h
  | .list _, u, h => by unfold datB at h; cases u <;> cases h
  | .dict _, u, h => by unfold datB at h; cases u <;> cases h
  | .int i, u, h => by
    cases u <;> unfold datB at h <;> first | cases h | skip
    exact ⟨.int i, ⟨_, by rw [of_decide_eq_true h]⟩, fun N H => .int i⟩
  | .bool b, u, h => by
    cases u <;> unfold datB at h <;> first | cases h | skip
    exact ⟨.bl b, by rw [beq_iff_eq.mp h]; rfl, fun N H => .bl b⟩
  | .str x, u, h => by
    cases u <;> unfold datB at h <;> first | cases h | skip
    exact ⟨.str x, ⟨_, by rw [of_decide_eq_true h]⟩, fun N H => .str x⟩
  | .tuple ds, u, h => by
    cases u with
    | ref a =>
      unfold datB at h
      cases q : K.lookup a with
      | none => rw [q] at h; cases h
      | some o =>
        obtain ⟨oc, od, dt, osl⟩ := o
        rw [q] at h
        cases oc with
        | type c =>
          cases dt with
          | seq its n =>
            have h1 : (decide (c = "tuple") && (decide (its.size ≤ sizeLine) && datsB K ds its.toList)) = true := h
            rw [Bool.and_eq_true, Bool.and_eq_true] at h1
            obtain ⟨h2, h3, h4⟩ := h1
            obtain ⟨vs, h5, h6⟩ := datsB_ok ds its.toList h4
            exact ⟨.ref a, rfl, fun N H => .tup (.inr ⟨_, its, n, q, congrArg Value.type (of_decide_eq_true h2), rfl, of_decide_eq_true h3, h5⟩) (h6 N H)⟩
          | _ => cases h
        | _ => cases dt <;> cases h
    | _ => unfold datB at h; cases h
theorem datsB_ok {K : PySem.W.Frag} : ∀ (ds : List PyData) (us : List Value), datsB K ds us = true → ∃ vs, Vals vs us ∧ ∀ N H, DnAll K N H vs ds
  | [], [], _ => ⟨[], .nil, fun _ _ => .nil⟩
  | [], _ :: _, h => by unfold datsB at h; cases h
  | _ :: _, [], h => by unfold datsB at h; cases h
  | d :: ds, u :: us, h => by
    unfold datsB at h
    rw [Bool.and_eq_true] at h
    obtain ⟨v, h1, h2⟩ := datB_ok d u h.1
    obtain ⟨vs, h3, h4⟩ := datsB_ok ds us h.2
    exact ⟨v :: vs, .cons h1 h3, fun N H => .cons (h2 N H) (h4 N H)⟩
end
def kdB (K : PySem.W.Frag) (a : Addr) (m : List (Str × PyData)) : Bool := m.all fun p => match PySem.W.nsIn K a p.1 with
  | some (some u) => datB K p.2 u
  | _ => false
/-- the dict m stands at a -/
structure KdOk (K : PySem.W.Frag) (w : World) (a : Addr) (m : List (Str × PyData)) : Prop where
  get : ∀ p ∈ m, ∃ v, KDct K w a p.1 v ∧ ∀ N H, Dn K N H v p.2
  keys : He.dicW K a = some (He.keysIn w.params (m.map (·.1)))
theorem kdOk_of {K : PySem.W.Frag} {w : World} {a : Addr} {m : List (Str × PyData)} (h1 : kdB K a m = true) (h2 : He.dicW K a = some (He.keysIn w.params (m.map (·.1)))) : KdOk K w a m := by
  refine ⟨fun p hp => ?_, h2⟩
  obtain ⟨es, n, D⟩ := He.dicW_ok h2
  have h3 := List.all_eq_true.mp h1 p hp
  cases q : PySem.W.nsIn K a p.1 with
  | none => rw [q] at h3; cases h3
  | some r =>
    cases r with
    | none => rw [q] at h3; cases h3
    | some u =>
      rw [q] at h3
      obtain ⟨v, h4, h5⟩ := datB_ok p.2 u h3
      exact ⟨v, ⟨es, n, u, D.at_, D.lit, q, h4⟩, h5⟩
/-! ### rules -/
section
variable {w : Bool} {c : Cn} {env : Sy} {os : List SO} {te ta tb : TE}
theorem ex_kdget {W : World} {a : Addr} {m : List (Str × PyData)} {x : Str} {d : PyData} (hk : KdOk c.K W a m) (hm : (x, d) ∈ m) (hb : EvX true c env os tb (.str x)) : EvX w c env os (tOp (rIxD c.K W) (tC (.ref a)) tb) d := fun ad σ H ok Q q =>
  hb ad σ H ok _ fun v H2 e r => by
    obtain ⟨u, h1, h2⟩ := hk.get _ hm
    cases dn_str r
    exact ⟨a, x, u, rfl, rfl, h1, q u H2 e (h2 _ _)⟩
end
/-- sorted(d) of such a dict -/
def rSortKd (K : PySem.W.Frag) (W : World) : List V → Hp → VK → Prop := fun vs H Q => ∃ (a : Addr) (ks : List Str), vs = [V.ref a] ∧ He.dicW K a = some (He.keysIn W.params ks) ∧ ks.length ≤ 1000 ∧ ∀ p, H p = none → Q (.ref p) (upd H p (.lst ((ks.mergeSort (PySem.W.dataLe false PyData.str)).map V.str)))
theorem each_of {R : Value → Str → Prop} : ∀ {l : List Value} {m : List Str}, l.length = m.length → (∀ (j : Nat) (v : Value) (x : Str), l[j]? = some v → m[j]? = some x → R v x) → PySem.W.EachIs R l m
  | [], [], _, _ => .nil
  | [], _ :: _, h, _ => by simp at h
  | _ :: _, [], h, _ => by simp at h
  | v :: l, x :: m, h, f => .cons (f 0 v x rfl rfl) (each_of (by simpa using h) fun j v x h1 h2 => f (j + 1) v x (by simpa using h1) (by simpa using h2))
theorem each_str : ∀ {l : List Value} {m : List Str}, PySem.W.EachIs (fun v x => ∃ t, v = Value.str x t) l m → Vals (m.map V.str) l
  | _, _, .nil => .nil
  | _, _, .cons r t => .cons r (each_str t)
theorem cr_sortKd {X : Cx} (hc : X.calm = true) (hu : X.A.units + 64 < cLine) : CallR X (.builtin "sorted") (rSortKd X.K X.w) := by
  intro pins s σ H vs us Q I r h
  obtain ⟨a, ks, rfl, hd, hkl, q⟩ := h
  rw [Vals.ref1 r]
  obtain ⟨es, n, D⟩ := He.dicW_ok hd
  have hk : es.toList.map He.keyOf = He.keysIn X.w.params ks := by
    unfold He.dicW at hd
    rw [D.at_] at hd
    have h1 : (match decide (("dict" : String) = "dict") && ((#[] : Array Value).isEmpty && !(a == sysModules)) with
      | true => some (es.toList.map He.keyOf)
      | false => none) = some (He.keysIn X.w.params ks) := hd
    rw [D.low] at h1
    exact Option.some.inj h1
  have hes : es.size = ks.length := by
    have := congrArg List.length hk
    simpa [He.keysIn] using this
  have raw : s.heap.DictRaw a es n := ⟨_, I.kIn _ _ D.at_, ⟨rfl, rfl, rfl⟩, rfl⟩
  have big : (1000 : Nat) ≤ sizeLine := by decide
  have lim : es.size ≤ sizeLine := by omega
  refine Calls.call_function_entry kind_sorted plain_sorted entry_sorted (args_sorted1 _) ?_
  unfold Builtin.«sorted»
  refine wpAny_bind (m := checkCount "sorted" 1 1 _) (wpAny_pure ?_)
  refine wpAny_bind (PySem.W.kdu_collect (A := X.A.in1) (PySem.KdlSrc.rawDict (es := es) (ep := n) D.low) (I.ok.hd hc) raw lim fun h1 tk acc keep hacc => ?_)
  have lenA : acc.toList.length = ks.length := by rw [Array.length_toList, hacc.1, hes]
  have each : PySem.W.EachIs (fun v x => ∃ t, v = Value.str x t) acc.toList ks := each_of lenA fun j v x e1 e2 => by
    obtain ⟨hi, e3⟩ := hacc.2 j v (by rw [← Array.getElem?_toList]; exact e1)
    have e4 : (es.toList.map He.keyOf)[j]? = (He.keysIn X.w.params ks)[j]? := by rw [hk]
    rw [List.getElem?_map, Array.getElem?_toList, Array.getElem?_eq_getElem hi] at e4
    unfold He.keysIn at e4
    rw [List.getElem?_map, e2] at e4
    have e5 : He.keyOf es[j] = some (x, PyData.keyHash X.w.params x) := Option.some.inj e4
    unfold He.keyOf at e5
    split at e5
    · rename_i y t hy
      have e6 := (Prod.mk.inj (Option.some.inj e5)).1
      exact ⟨t, by rw [e3, hy, e6]⟩
    · cases e5
  have I1 : Inv X pins σ H { s with heap := h1, toks := tk } := I.kept keep
  have limA : acc.toList.length ≤ sizeLine := by rw [lenA]; omega
  refine wpAny_bind (wpAny_newList ?_ limA)
  have at0 : (h1.push (seqObj "list" acc.toList.toArray 0)).get? h1.objs.size = some (seqObj "list" acc.toList.toArray 0) := Heap.get?_push_size _ rfl
  show wpAny _ _ _ _ _ { s with heap := h1.push (seqObj "list" acc.toList.toArray 0), toks := tk }
  have er : ∀ {l : List Value} {m : List Str} {hh : Heap} {b : Addr}, PySem.W.EachIs (fun v x => ∃ t, v = Value.str x t) l m → PySem.W.EachIs (fun v x => ∃ as, Reads hh v (PyData.str x) as ∧ b ∉ as) l m := by
    intro l m hh b h
    induction h with
    | nil => exact .nil
    | cons r t ih => obtain ⟨t, rfl⟩ := r; exact .cons ⟨[], .str _ _, by simp⟩ ih
  refine wpAny_bind (wpAny_holding (PySem.W.list_sort_data (s := { s with heap := h1.push (seqObj "list" acc.toList.toArray 0), toks := tk }) (R := fun v x => ∃ t, v = Value.str x t) (bs := ks) (enc := PyData.str) at0 each (er each)
    (fun d hd d' hd' => by
      obtain ⟨x, _, rfl⟩ := List.mem_map.mp hd
      obtain ⟨y, _, rfl⟩ := List.mem_map.mp hd'
      rfl) (Or.inr fun d hd => by
      obtain ⟨x, _, rfl⟩ := List.mem_map.mp hd
      exact ⟨(fun z => by cases z), fun xs z => (by cases z)⟩) (by omega) (fun b hb => ?_) fun out lo eo => ?_))
  · have hu1 : X.A.in1.units ≤ X.A.units + 1 := Nat.le_refl _
    have : (PyData.str b).depth = 0 := rfl
    omega
  · obtain ⟨ep2, at2⟩ := sortedHeap_at (vs := acc.toList) (out := out.toArray) at0
    have lenR : ((ks.mergeSort (PySem.W.dataLe false PyData.str)).map V.str).length ≤ sizeLine := by
      rw [List.length_map, (List.mergeSort_perm _ _).length_eq]
      omega
    refine wpAny_pure ⟨_, rfl, .ref h1.objs.size, upd H h1.objs.size (.lst ((ks.mergeSort (PySem.W.dataLe false PyData.str)).map V.str)), I1.laid (t' := tk) (fun b u e => ?_) (Nat.le_refl _)
      (show ObjOk X.prog X.w _ _ _ (.lst _) from ⟨lenR, out, ep2, each_str eo, at2⟩), rfl, q _ (I1.hok.fresh (Nat.le_refl _))⟩
    have lt : b < h1.objs.size := Heap.lt_size e
    rw [sortedHeap_old (Nat.ne_of_lt lt) (by rw [size_push']; exact Nat.lt_succ_of_lt lt)]
    exact Heap.get?_push_of_some _ e
theorem ef_sortKd {c : Cn} {env : Sy} {os : List SO} {W : World} {a : Addr} {m : List (Str × PyData)} (hk : KdOk c.K W a m) (hl : m.length ≤ 1000) : EvF c env os (tCB (rSortKd c.K W) (tCons (tC (.ref a)) tNil)) (.lst ((((m.map (·.1)).mergeSort (PySem.W.dataLe false PyData.str)).map PyData.str).map SV.i)) := fun ad σ H ok Q q => by
  refine ⟨a, m.map (·.1), rfl, hk.keys, by simpa using hl, fun p hp => q p _ hp (Ex.new hp) ⟨_, upd_same, ?_⟩⟩
  generalize (m.map (·.1)).mergeSort (PySem.W.dataLe false PyData.str) = l
  refine dn_paired ?_
  generalize upd H p (HO.lst (l.map V.str)) = H2
  induction l with
  | nil => exact .nil
  | cons x l ih => exact .cons (.str x) ih
/-! ### written dicts with lists -/
section
variable {w : Bool} {c : Cn} {env : Sy} {os : List SO} {te ta tb td ty tx : TE} {d : PyData}
def EvP2 (c : Cn) (env : Sy) (os : List SO) (trs : List (TE × TE)) (kvs : List (Key × PyData)) : Prop := ∀ ad σ H, Ok c ad env os σ H → ∀ Q : List (V × V) → Hp → Prop,
  (∀ (vs : List (Key × V)) H2, Ex H H2 → Paired (fun (x : Key × V) (y : Key × PyData) => x.1 = y.1 ∧ Dn c.K (Nof c ad os) H2 x.2 y.2) vs kvs → Q (vs.map fun kv => (kV kv.1, kv.2)) H2) → tPairs trs σ H Q
theorem ep2_nil : EvP2 c env os [] [] := fun ad σ H ok Q q => q [] H (Ex.refl H) .nil
theorem ep2_cons {trs : List (TE × TE)} {kvs : List (Key × PyData)} {kk : Key} (hk : EvX true c env os ta (kdat kk)) (hv : EvX false c env os tb d) (hr : EvP2 c env os trs kvs) : EvP2 c env os ((ta, tb) :: trs) ((kk, d) :: kvs) := fun ad σ H ok Q q =>
  hk ad σ H ok _ fun v H1 e1 r1 => hv ad σ H1 (ok.ext e1) _ fun u H2 e2 r2 => hr ad σ H2 ((ok.ext e1).ext e2) _ fun vs H3 e3 p => by
    rw [Nw_false] at r2
    have := q ((kk, u) :: vs) H3 ((e1.trans e2).trans e3) (.cons ⟨rfl, r2.ext e3⟩ p)
    rw [List.map_cons] at this
    rw [dn_key r1]
    exact this
theorem ef_dispL {trs : List (TE × TE)} {kvs : List (Key × PyData)} (h : EvP2 c env (os ++ [.dK []]) trs kvs) (hn : (kvs.map (·.1)).Nodup) (hl : kvs.length ≤ 15) : EvF c env os (tDisp trs) (.dK (kvs.map fun q => (q.1, SV.i q.2))) := fun ad σ H ok Q q p hp => by
  have h0 : c.H0 p = none ∨ c.M p := by
    by_cases hm : c.M p
    · exact Or.inr hm
    · refine Or.inl ?_
      cases hz : c.H0 p with
      | none => rfl
      | some o => rw [ok.ex p o hz hm] at hp; cases hp
  have ok1 := ok.new (o := .dK []) hp (Ex.new hp) h0 ⟨[], upd_same, .nil⟩
  refine h _ σ _ ok1 _ fun vs H2 e pv => ?_
  have hp2 : H2 p = some (.dK []) := e _ _ upd_same
  have hkeys : vs.map (·.1) = kvs.map (·.1) := by
    clear h hn hl q
    induction pv with
    | nil => rfl
    | cons r t ih => rw [List.map_cons, List.map_cons, r.1, ih]
  refine ⟨hp2, vs, rfl, by have := congrArg List.length hkeys; simp at this; omega, ?_⟩
  rw [mergeK_app vs [] (by simpa [hkeys] using hn), List.nil_append]
  have hin : ∀ a, (Nof c ad os a ∨ a = p) → Nof c (adN ad os.length p) (os ++ [.dK []]) a := fun a z => by
    rcases z with z | z
    · rcases z with z | ⟨k, ⟨o, e1, l⟩, z⟩
      · exact Or.inl z
      · have hk := (List.getElem?_eq_some_iff.mp e1).1
        exact Or.inr ⟨k, ⟨o, by rw [List.getElem?_append_left hk]; exact e1, l⟩, by rw [adN_ne (by omega)]; exact z⟩
    · exact Or.inr ⟨os.length, ⟨.dK [], by simp, rfl⟩, by rw [adN_same]; exact z⟩
  refine q p _ hp (fun a o ha => ?_) ⟨vs, upd_same, ?_⟩
  · rw [upd_ne (ne_of_none ha hp)]
    exact e a o (by rw [upd_ne (ne_of_none ha hp)]; exact ha)
  · have mutd : ∀ (v : V) (d : PyData), Dn c.K (Nof c (adN ad os.length p) (os ++ [.dK []])) H2 v d → Dn c.K (fun a => Nof c ad os a ∨ a = p) (upd H2 p (.dK vs)) v d := fun v d r => (r.mut hp2 rfl (hin p (Or.inr rfl))).sub hin
    clear hkeys h hn hl q e
    generalize upd H2 p (HO.dK vs) = H3 at mutd
    induction pv with
    | nil => exact .nil
    | cons r t ih => exact .cons ⟨r.1, mutd _ _ r.2⟩ (ih)
theorem ex_dget2D {α β : Type} [DecidableEq α] {ek : α → Key} {ev : β → PyData} {m : List (α × β)} {a : α} {d2 : PyData} (hi : ∀ a b, ek a = ek b → a = b) (hd : EvX w c env os td (dKd ek ev m)) (hk : EvX true c env os ty (kdat (ek a))) (hx : EvX w c env os tx d2) (hg : ((getA m a).map ev).getD d2 = d) : EvX w c env os (tDGet2 td ty tx) d := fun ad σ H ok Q q =>
  hd ad σ H ok _ fun v H1 e1 r1 => by
    obtain ⟨p, ws1, rfl, hp1, _, _⟩ := dn_dK r1
    refine ⟨p, rfl, Or.inl ⟨ws1, hp1⟩, hk ad σ H1 (ok.ext e1) _ fun y H2 e2 r2 => hx ad σ H2 ((ok.ext e1).ext e2) _ fun z H3 e3 r3 => ?_⟩
    obtain ⟨p', ws, ep, hp, _, pw⟩ := dn_dK ((r1.ext e2).ext e3)
    cases ep
    refine ⟨_, by rw [dn_key r2]; exact DGet.rk hp, ?_⟩
    rcases val_dK (F := fun v b => Dn c.K (Nw w c ad os) H3 v (ev b)) hi pw a with ⟨x, y⟩ | ⟨v, b, x, y, f⟩
    · rw [x]
      rw [y] at hg
      cases hg
      exact q z H3 ((e1.trans e2).trans e3) r3
    · rw [x]
      rw [y] at hg
      cases hg
      exact q v H3 ((e1.trans e2).trans e3) f
theorem ex_isnotB {r : R2} {a b : Bool} (hr : r = (fun x y H Q => ∃ a b, x = .bl a ∧ y = .bl b ∧ Q (.bl (!decide (a = b))) H)) (ha : EvX true c env os ta (.bool a)) (hb : EvX true c env os tb (.bool b)) : EvX w c env os (tOp r ta tb) (.bool (!decide (a = b))) := fun ad σ H ok Q q => by
  subst hr
  exact ha ad σ H ok _ fun v H1 e1 r1 => hb ad σ H1 (ok.ext e1) _ fun u H2 e2 r2 => ⟨a, b, dn_bool r1, dn_bool r2, q _ H2 (e1.trans e2) (.bl _)⟩
/-- a text in texts -/
theorem ex_inLs {x : Str} {xs : List Str} (ha : EvX true c env os ta (.str x)) (hb : EvI c env os tb ((xs.map PyData.str).map SV.i)) : EvX w c env os (tOp (rIn c.K false) ta tb) (.bool (decide (x ∈ xs))) := by
  have hl : xs.map PyData.str = (xs.map fun y => y.cps.toList).map dT := by rw [List.map_map]; rfl
  refine EvX.is (ex_inLt (l := x.cps.toList) (ls := xs.map fun y => y.cps.toList) ha (by rw [← hl]; exact hb)) ?_
  congr 1
  refine decide_eq_decide.mpr ⟨fun h => ?_, fun h => List.mem_map.mpr ⟨x, h, rfl⟩⟩
  obtain ⟨y, hy, e⟩ := List.mem_map.mp h
  have : y = x := by
    obtain ⟨⟨y⟩⟩ := y
    obtain ⟨⟨x⟩⟩ := x
    have e : y = x := e
    rw [e]
  exact this ▸ hy
theorem ex_inTs {x : Str} {xs : List Str} (ha : EvX true c env os ta (.str x)) (hb : EvX true c env os tb (.tuple (xs.map PyData.str))) : EvX w c env os (tOp (rIn c.K false) ta tb) (.bool (decide (x ∈ xs))) := by
  have hl : xs.map PyData.str = (xs.map fun y => y.cps.toList).map dT := by rw [List.map_map]; rfl
  refine EvX.is (ex_inTt (l := x.cps.toList) (ls := xs.map fun y => y.cps.toList) ha (by rw [← hl]; exact hb)) ?_
  congr 1
  refine decide_eq_decide.mpr ⟨fun h => ?_, fun h => List.mem_map.mpr ⟨x, h, rfl⟩⟩
  obtain ⟨y, hy, e⟩ := List.mem_map.mp h
  have : y = x := by
    obtain ⟨⟨y⟩⟩ := y
    obtain ⟨⟨x⟩⟩ := x
    have e : y = x := e
    rw [e]
  exact this ▸ hy
end
/-- list + list, read only -/
def rCatL (K : PySem.W.Frag) : R2 := fun x y H Q => ∃ (a b : Addr) (xs ys : List V), x = .ref a ∧ y = .ref b ∧ SqL K H a xs ∧ SqL K H b ys ∧ xs.length + ys.length ≤ sizeLine ∧ ∀ p, H p = none → Q (.ref p) (upd H p (.lst (xs ++ ys)))
theorem op_catL {X : Cx} : OpR X (binaryOp .Add) (rCatL X.K) := by
  intro pins s σ H x y v u Q I rx ry h
  obtain ⟨a, b, xs, ys, rfl, rfl, ha, hb, hz, q⟩ := h
  cases rx
  cases ry
  obtain ⟨its, r, pl, _⟩ := I.list ha
  obtain ⟨its2, r2, pl2, _⟩ := I.list hb
  obtain ⟨⟨cls, dd, data, sl⟩, ho, hc, n, hd⟩ := pl.isList
  obtain ⟨⟨cls2, dd2, data2, sl2⟩, ho2, hc2, n2, hd2⟩ := pl2.isList
  simp only at hc hd hc2 hd2
  subst hc hd hc2 hd2
  have e1 := r.length
  have e2 := r2.length
  have ea : its.toArray ++ its2.toArray = (its ++ its2).toArray := by simp
  refine concat_meets ⟨_, ho, rfl⟩ ⟨_, ho2, rfl⟩ noFill_list_add seq_list_add PySem.F.slot_list_add PySem.F.entry_list_add (PySem.F.args_list_add_2 _ _) (list_addW a b its.toArray its2.toArray n n2 dd dd2 sl sl2 (by simp; omega)) ⟨ho, ho2, ?_⟩
  rw [ea]
  exact ⟨.ref _, _, I.lnew (t' := s.toks) (r.append r2) (by rw [List.length_append]; omega), rfl, q _ I.fresh⟩
theorem kCatL {X : Cx} {K : PySem.W.Frag} (h : X.K = K := by rfl) : OpR X (binaryOp .Add) (rCatL K) := by subst h; exact op_catL
theorem ef_catL {c : Cn} {env : Sy} {os : List SO} {ta tb : TE} {ds es : List PyData} (ha : EvX false c env os ta (.list ds)) (hb : EvX false c env os tb (.list es)) (hl : ds.length + es.length ≤ 100000) : EvF c env os (tOp (rCatL c.K) ta tb) (.lst ((ds ++ es).map SV.i)) := fun ad σ H ok Q q =>
  ha ad σ H ok _ fun v H1 e1 r1 => hb ad σ H1 (ok.ext e1) _ fun u H2 e2 r2 => by
    rw [Nw_false] at r1 r2
    have r1 := r1.ext e2
    obtain ⟨a, rfl⟩ := dn_list_ref r1
    obtain ⟨b, rfl⟩ := dn_list_ref r2
    obtain ⟨xs, hx, ax⟩ := sql_of_dn r1
    obtain ⟨ys, hy, ay⟩ := sql_of_dn r2
    have l1 := ax.length
    have l2 := ay.length
    refine ⟨a, b, xs, ys, rfl, rfl, hx, hy, Nat.le_trans (by omega) (show (100000 : Nat) ≤ sizeLine by decide), fun p hp => q p _ ((e1.trans e2).free hp) ((e1.trans e2).trans (Ex.new hp)) ⟨xs ++ ys, upd_same, ?_⟩⟩
    exact dn_paired ((DnAll.add hp (ax.append ay)).ext (Ex.new hp))
/-- a list's item that is drawn -/
theorem em_ixD {c : Cn} {env : Sy} {os : List SO} {ta tb : TE} {PP : List PyData → Prop} {P : PyData → Prop} (ha : EvM c env os ta (fun d => ∃ ds, d = .list ds ∧ PP ds)) (hb : ∀ (v : V) (ds : List PyData), PP ds → EvM (c.w ((v, .i (.list ds)) :: c.fr) os.length) env os tb (fun d => ∃ i : Int, d = .int i ∧ 0 ≤ i ∧ i < (ds.length : Int)))
    (hP : ∀ ds, PP ds → ∀ x ∈ ds, P x) : EvM c env os (tOp (rIxL c.K) ta tb) P :=
  em_op ha fun v d ⟨ds, e, hp⟩ => by
    subst e
    refine em_op2 (hb v ds hp) fun v2 d2 ⟨i, e2, h0, h1⟩ => ?_
    subst e2
    obtain ⟨j, rfl⟩ := Int.eq_ofNat_of_zero_le h0
    have hi : j < ds.length := by omega
    exact em_x (d := ds[j]) (ex_ixLD (ex_pin (d := .list ds) (List.mem_cons_of_mem _ (List.mem_cons_self ..))) (ex_pin (d := .int (j : Int)) (List.mem_cons_self ..)) (atI_nat (List.getElem?_eq_getElem hi))) (hP ds hp _ (List.getElem_mem hi))
theorem tab_keys {fa : List He.Fa} {fn : List He.DefD} {ts : List He.Tab} {w : World} {K : PySem.W.Frag} (c : He.SaysT fa fn ts w K) (i : Nat) {t : He.Tab} (h : ts[i]? = some t) : He.dicW K (t.1 K) = some (He.keysIn w.params t.2) := by
  have e : ts.map (fun t => He.dicW K (t.1 K)) = ts.map fun t => some (He.keysIn w.params t.2) := congrArg (fun z : He.AlT => z.2) c
  have e2 : (ts.map fun t => He.dicW K (t.1 K))[i]? = (ts.map fun t => some (He.keysIn w.params t.2))[i]? := by rw [e]
  rw [List.getElem?_map, List.getElem?_map, h] at e2
  exact Option.some.inj e2
theorem kSortKd {X : Cx} {K : PySem.W.Frag} {W : World} (hc : X.calm = true) (hu : X.A.units + 64 < cLine) (h : X.K = K := by rfl) (h2 : X.w = W := by rfl) : CallR X (.builtin "sorted") (rSortKd K W) := by subst h h2; exact cr_sortKd hc hu
theorem kIxKd {X : Cx} {K : PySem.W.Frag} {W : World} (h : X.K = K := by rfl) (h2 : X.w = W := by rfl) : IxR X (rIxD K W) := by subst h h2; exact ix_kdict
end DL

set_option Elab.async false
set_option linter.all false
set_option maxRecDepth 100000
set_option maxHeartbeats 2000000
/-! The data layer: reversed(list), list(dict), whole numbers in a list. -/
namespace DL
open PySem PySem.Spec PyProof.Rows L2
open Evl (Ex Ex.refl Ex.trans Ex.new)
theorem kRev {X : Cx} {K : PySem.W.Frag} {tg e : Expr} {ta : TA} {p pos : Pos} (hg : Gl X "reversed") (hm : X.mg "reversed" = none) (ha : PA X [e] ta) (hs : starEach [e] X.env = [(false, eval e X.env)] := by rfl) (hk : X.K = K := by rfl) : PI X tg (.Call (.Name "reversed" p) [e] [] pos) (iRev K ta) := by subst hk; exact pi_reversed hg hm ha hs
section
variable {w : Bool} {c : Cn} {env : Sy} {os : List SO} {te ta tb tl td : TE} {d : PyData}
theorem ew_rev {ds : List PyData} (h : EvX false c env os tl (.list ds)) : EvW c env os (iRev c.K (tCons tl tNil)) ds.reverse.length (itD ds.reverse) (fun _ => True) := fun ad σ H ok R q =>
  h ad σ H ok _ fun v H1 e r => by
    rw [Nw_false] at r
    obtain ⟨a, rfl⟩ := dn_list_ref r
    obtain ⟨xs, hs, ax⟩ := sql_of_dn r
    refine ⟨a, xs, rfl, hs, q _ H1 ((.ref a, .i (.list ds)) :: c.fr) e ((ok.ext e).pin r) (up_pin (ok.ext e)) ⟨fun i ad' env' os' σ' H' hi o _ => ?_, fun ad' env' os' σ' H' o _ => ?_, fun i ad' env' os' σ' H' x H'' hi o _ y => ?_⟩⟩
    all_goals
      have r' : Dn c.K (Nof c ad' os') H' (.ref a) (.list ds) := o.frm _ (List.mem_cons_self ..)
      obtain ⟨ys, hy, ay⟩ := sql_of_dn r'
      have e1 := ax.length
      have e2 := ay.length
    · rw [List.length_reverse] at hi
      exact ⟨by omega, ys, ys[xs.length - 1 - i]'(by omega), hy, List.getElem?_eq_getElem _⟩
    · show xs.length ≤ ds.reverse.length
      rw [List.length_reverse]; omega
    · obtain ⟨rfl, y⟩ := y
      refine ⟨Ex.refl _, ?_⟩
      rw [List.length_reverse] at hi
      obtain ⟨d, h1, h2⟩ := ay.getV (y ys hy)
      rw [itD_at (d := d) (by rw [List.getElem?_reverse hi, ← e1]; exact h1)]
      exact h2
/-- list(d): the keys of a dict of the store -/
theorem ef_listDK {r : List V → Hp → VK → Prop} {k : Nat} {kvs : List (Key × SV)} {ks : List Int} (hr : r = fun xs H Q => ∃ (a : Addr) (kvs : List (Key × V)), xs = [.ref a] ∧ Rd H a (.dK kvs) ∧ ∀ p, H p = none → Q (.ref p) (upd H p (.lst (kvs.map fun kv => kV kv.1)))) (hl : EvR c env os td k) (hk : os[k]? = some (.dK kvs)) (hks : kvs.map (·.1) = ks.map Sum.inl) : EvF c env os (tCB r (tCons td tNil)) (.lst ((ks.map PyData.int).map SV.i)) := fun ad σ H ok Q q => by
  subst hr
  refine hl.2 ad σ H ok _ fun H1 e1 => ?_
  obtain ⟨_, ws, hws, pw⟩ := (ok.ext e1).obj k _ hk rfl
  refine ⟨ad k, ws, rfl, Or.inl hws, fun p hp => ?_⟩
  refine q p _ (e1.free hp) (e1.trans (Ex.new hp)) ⟨_, upd_same, ?_⟩
  have hkeys := paired_keys pw
  have e : (ws.map fun kv => kV kv.1) = ks.map V.int := by
    have h1 : (ws.map fun kv => kV kv.1) = (ws.map (·.1)).map kV := by rw [List.map_map]; rfl
    rw [h1, hkeys, hks, List.map_map]
    rfl
  rw [e]
  exact dn_paired (ints_dn ks)
theorem inV_int (i : Int) (ns : List Int) : inV (.int i) (ns.map V.int) = decide (i ∈ ns) := by
  unfold inV
  rw [List.any_map]
  by_cases h : i ∈ ns
  · rw [decide_eq_true h]
    exact List.any_eq_true.mpr ⟨i, h, by simp [eqV]⟩
  · rw [decide_eq_false h]
    refine Bool.eq_false_iff.mpr fun z => h ?_
    obtain ⟨y, hy, e⟩ := List.any_eq_true.mp z
    have e2 : y = i := by simpa [eqV] using e
    rw [← e2]
    exact hy
theorem flat_ints (ns : List Int) : (ns.map V.int).all flatV = true := by
  rw [List.all_map]
  exact List.all_eq_true.mpr fun _ _ => rfl
/-- number in [number, ..] -/
theorem ex_inI {i : Int} {ns : List Int} (ha : EvX true c env os ta (.int i)) (hb : EvI c env os tb ((ns.map PyData.int).map SV.i)) : EvX w c env os (tOp (rIn c.K false) ta tb) (.bool (decide (i ∈ ns))) := fun ad σ H ok Q q =>
  ha ad σ H ok _ fun v H1 e1 r1 => hb ad σ H1 (ok.ext e1) _ fun p vs H2 e2 hs hx => by
    rw [ints_of hx] at hs
    cases dn_int r1
    refine ⟨p, ns.map V.int, rfl, Or.inl hs, rfl, flat_ints ns, ?_⟩
    show Q (.bl (inV (.int i) (ns.map V.int))) H2
    rw [inV_int]
    exact q _ H2 (e1.trans e2) (.bl _)
theorem ex_notinI {i : Int} {ns : List Int} (ha : EvX true c env os ta (.int i)) (hb : EvI c env os tb ((ns.map PyData.int).map SV.i)) : EvX w c env os (tOp (rIn c.K true) ta tb) (.bool (!decide (i ∈ ns))) := fun ad σ H ok Q q =>
  ha ad σ H ok _ fun v H1 e1 r1 => hb ad σ H1 (ok.ext e1) _ fun p vs H2 e2 hs hx => by
    rw [ints_of hx] at hs
    cases dn_int r1
    refine ⟨p, ns.map V.int, rfl, Or.inl hs, rfl, flat_ints ns, ?_⟩
    show Q (.bl (!inV (.int i) (ns.map V.int))) H2
    rw [inV_int]
    exact q _ H2 (e1.trans e2) (.bl _)
/-! a dict of the store with whole numbers as keys -/
def addK (ns : List Int) (n : Int) : List Int := if n ∈ ns then ns else ns ++ [n]
abbrev encK (ns : List Int) : List (Key × SV) := ns.map fun n => ((.inl n : Key), SV.i (.bool true))
theorem getA_encK (ns : List Int) (n : Int) : (getA (encK ns) (.inl n)).isSome = decide (n ∈ ns) := by
  by_cases h : n ∈ ns
  · rw [decide_eq_true h, getA_mem, List.map_map]
    exact List.mem_map.mpr ⟨n, h, rfl⟩
  · rw [decide_eq_false h]
    refine Bool.eq_false_iff.mpr fun z => h ?_
    rw [getA_mem, List.map_map] at z
    obtain ⟨m, hm, e⟩ := List.mem_map.mp z
    have e2 : m = n := Sum.inl.inj e
    rw [← e2]
    exact hm
theorem setA_encK (ns : List Int) (n : Int) : setA (encK ns) (.inl n) (.i (.bool true)) = encK (addK ns n) := by
  unfold setA addK
  rw [getA_encK]
  by_cases h : n ∈ ns
  · rw [if_pos (decide_eq_true h), if_pos h]
    unfold encK
    rw [List.map_map]
    refine List.map_congr_left fun m _ => ?_
    show ((Sum.inl m : Key), if (Sum.inl m : Key) = Sum.inl n then SV.i (.bool true) else SV.i (.bool true)) = _
    split <;> rfl
  · rw [if_neg (by rw [decide_eq_false h]; decide), if_neg h]
    unfold encK
    rw [List.map_append]
    rfl
theorem addK_len (ns : List Int) (n : Int) : (addK ns n).length ≤ ns.length + 1 := by
  unfold addK
  split
  · omega
  · simp
theorem encK_keys (ns : List Int) : (encK ns).map (·.1) = ns.map Sum.inl := by rw [List.map_map]; rfl
theorem soLt_encK {n : Nat} {ns : List Int} : SoLt n (.dK (encK ns)) := fun p hp => by
  obtain ⟨m, _, rfl⟩ := List.mem_map.mp hp
  exact True.intro
end
end DL
namespace DL
open PySem PySem.Spec PyProof.Rows L2
theorem cutG_ab {α : Type} (xs : List α) (a b : Nat) : cutG xs (some (a : Int)) (some (b : Int)) = (xs.drop a).take (b - a) := by
  by_cases h : b ≤ xs.length
  · exact cutG_mid xs a b h
  · unfold cutG
    rw [HT.sIx_nat, HT.sIx_nat, Nat.min_eq_right (by omega)]
    by_cases h2 : a ≤ xs.length
    · rw [Nat.min_eq_left h2, List.take_of_length_le (by rw [List.length_drop]; omega), List.take_of_length_le (by rw [List.length_drop]; omega)]
    · rw [Nat.min_eq_right (by omega)]
      simp [List.drop_of_length_le (show xs.length ≤ a by omega)]
section
variable {c : Cn} {env : Sy} {os : List SO} {g : TG} {tb u : TS} {D : Ends}
/-- a for over a list that may be left by return: P of the part that is done -/
theorem gs_forLP {α : Type} {wi : TI} {xs : List α} {e : α → SV} {n : Nat} {it : Nat → SV} {G : List SO → Prop} (P : List α → Prop) (E : List α → Sy) (O : List α → List SO) (hw : EvW c env os wi n it G) (hn : n = xs.length) (hit : ∀ i x, xs[i]? = some x → it i = e x)
    (h0 : ∀ c' : Cn, c'.lo = os.length → ∀ ad σ H, Ok c' ad env os σ H → Ok c' ad (E []) (O []) σ H) (p0 : P []) (hG : ∀ pre post, xs = pre ++ post → G (O pre))
    (hs : ∀ fr, Up c (c.w fr os.length) → ∀ pre x post, xs = pre ++ x :: post → P pre → ∃ env' js, Tg (c.w fr os.length) (E pre) (O pre) g (e x) env' js ∧ Go (c.w fr os.length) env' (O pre) tb { D with nx := fun σ H => P (pre ++ [x]) ∧ OkE (c.w fr os.length) (E (pre ++ [x])) (O (pre ++ [x])) σ H, ct := fun σ H => P (pre ++ [x]) ∧ OkE (c.w fr os.length) (E (pre ++ [x])) (O (pre ++ [x])) σ H, bk := u D })
    (hd : P xs → Go c (E xs) (O xs) u D) : Go c env os (tSeq (tFor wi g tb) u) D := by
  subst hn
  refine gs_forP (fun i => P (xs.take i)) (fun i => E (xs.take i)) (fun i => O (xs.take i)) hw (fun c' hc => by simpa using h0 c' hc) (by simpa using p0) (fun i hi => hG _ (xs.drop i) (List.take_append_drop i xs).symm) (fun fr up i hi hp => ?_) (by simpa using hd)
  have e1 : xs = xs.take i ++ xs[i] :: xs.drop (i + 1) := by
    rw [List.getElem_cons_drop]; exact (List.take_append_drop i xs).symm
  obtain ⟨env', js, h1, h2⟩ := hs fr up (xs.take i) xs[i] (xs.drop (i + 1)) e1 hp
  rw [hit i xs[i] (List.getElem?_eq_getElem hi)]
  refine ⟨env', js, h1, ?_⟩
  have e2 : xs.take (i + 1) = xs.take i ++ [xs[i]] := by rw [List.take_succ, List.getElem?_eq_getElem hi]; rfl
  simp only [e2]
  exact h2
end
end DL
namespace DL
open PySem PySem.Spec PyProof.Rows L2
open Evl (Ex Ex.refl Ex.trans Ex.new)
theorem kRevL {X : Cx} {K : PySem.W.Frag} {e : Expr} {te : TE} {k : Nat} {p1 p2 p3 pos : Pos} (he : PE X e te) (hk : X.K = K := by rfl) : PE X (.Subscript e (.Slice none none (some (.UnaryOp .USub (.Constant (.int 1) k p1) p2)) p3) pos) (tRevL K te) := by subst hk; exact pe_revL he
theorem paired_snoc2 {α β : Type} {F : α → β → Prop} : ∀ {l : List α} {m : List β}, Paired F l m → Paired F l.reverse m.reverse
  | _, _, .nil => .nil
  | _, _, .cons r t => by rw [List.reverse_cons, List.reverse_cons]; exact paired_snoc (paired_snoc2 t) r
section
variable {w : Bool} {c : Cn} {env : Sy} {os : List SO} {te ta tb tl td ty tx : TE} {d : PyData}
/-- xs[::-1] -/
theorem ef_rev {ss : List SV} (h : EvI c env os te ss) : EvF c env os (tRevL c.K te) (.lst ss.reverse) := fun ad σ H ok Q q =>
  h ad σ H ok _ fun a vs H1 e hs pv => ⟨a, vs, rfl, hs, fun p hp => q p _ (e.free hp) (e.trans (Ex.new hp)) ⟨_, upd_same, Paired.imp (paired_snoc2 pv) fun v s z => by
    cases s with
    | i d => exact (Dn.add hp z).ext (Ex.new hp)
    | t ks => obtain ⟨b, e1, e2⟩ := z; exact ⟨b, e1, Ex.new hp _ _ e2.1, e2.2⟩
    | ob C m => exact (ObOk.add hp z).ext (Ex.new hp)
    | r k => exact z⟩⟩
/-- d.get(k, x), keys that are tuples -/
theorem ex_dget2T {α β : Type} [DecidableEq α] {ek : α → List Key} {ev : β → PyData} {m : List (α × β)} {a : α} {b : β} (hi : ∀ a b, ek a = ek b → a = b) (hd : EvX true c env os td (dTd ek ev m)) (hk : EvK c env os ty (.tup ((ek a).map kV))) (hx : EvX true c env os tx (ev b)) : EvX true c env os (tDGet2 td ty tx) (ev ((getA m a).getD b)) := fun ad σ H ok Q q =>
  hd ad σ H ok _ fun v H1 e1 r1 => by
    obtain ⟨p, ws, rfl, hp, _, _⟩ := dn_dT r1
    refine ⟨p, rfl, Or.inr ⟨ws, Or.inl hp⟩, hk.2 ad σ H1 (ok.ext e1) _ fun k H2 e2 hb => hx ad σ H2 ((ok.ext e1).ext e2) _ fun z H3 e3 r3 => ?_⟩
    obtain ⟨p', ws', ep, hp', _, pw⟩ := dn_dT ((r1.ext e2).ext e3)
    cases ep
    have e23 := e2.trans e3
    refine ⟨_, DGet.t hp' (e3 _ _ hb), ?_⟩
    rcases val_dT (F := fun v b => Dn c.K (Nw true c ad os) H3 v (ev b)) hi pw a with ⟨x, y⟩ | ⟨v, b', x, y, f⟩
    · rw [y] at q
      rw [x]
      exact q z H3 (e1.trans e23) r3
    · rw [y] at q
      rw [x]
      exact q v H3 (e1.trans e23) f
end
theorem atI_negk {α : Type} {xs : List α} {k : Nat} {v : α} (h : xs.reverse[k]? = some v) : atI xs (-1 - (k : Int)) = some v := by
  have hk : k < xs.length := by
    have := (List.getElem?_eq_some_iff.mp h).1
    rwa [List.length_reverse] at this
  rw [List.getElem?_reverse hk] at h
  unfold atI ixN
  rw [if_neg (by omega), if_pos (by omega)]
  have e : (-1 - (k : Int) + (xs.length : Int)).toNat = xs.length - 1 - k := by omega
  rw [e]
  exact h
end DL
namespace DL
open PySem PySem.Spec PyProof.Rows L2
open Evl (Ex Ex.refl Ex.trans Ex.new)
theorem paired_rep {α β : Type} {F : α → β → Prop} {l : List α} {m : List β} (h : Paired F l m) : ∀ n : Nat, Paired F (List.replicate n l).flatten (List.replicate n m).flatten
  | 0 => .nil
  | n + 1 => by
    rw [List.replicate_succ, List.replicate_succ, List.flatten_cons, List.flatten_cons]
    exact paired_app h (paired_rep h n)
theorem flat_len {α : Type} (l : List α) : ∀ n : Nat, (List.replicate n l).flatten.length = n * l.length
  | 0 => by simp
  | n + 1 => by rw [List.replicate_succ, List.flatten_cons, List.length_append, flat_len l n, Nat.add_mul]; omega
section
variable {w : Bool} {c : Cn} {env : Sy} {os : List SO} {te ta tb : TE}
theorem SvOk.fresh {K : PySem.W.Frag} {N : Addr → Prop} {ad : Nat → Addr} {n : Nat} {H : Hp} {v : V} {s : SV} {l : Addr} {o : HO} (hl : H l = none) (z : SvOk K N ad n H v s) : SvOk K (fun a => N a ∨ a = l) ad n (upd H l o) v s := by
  cases s with
  | i d => exact (Dn.add hl z).ext (Ex.new hl)
  | t ks => obtain ⟨b, e1, e2⟩ := z; exact ⟨b, e1, Ex.new hl _ _ e2.1, e2.2⟩
  | ob C m => exact (ObOk.add hl z).ext (Ex.new hl)
  | r k => exact z
/-- [..] * k -/
theorem ef_rep {ss : List SV} {k : Int} (h : EvF c env os ta (.lst ss)) (hi : EvX true c env os tb (.int k)) (h0 : k < 2 ^ 63) (h1 : -(2 ^ 63) ≤ k) (hz : ss.length * k.toNat ≤ 100000) : EvF c env os (tOp rRep ta tb) (.lst (List.replicate k.toNat ss).flatten) := fun ad σ H ok Q q =>
  h ad σ H ok _ fun p H1 hp e1 r => hi ad σ H1 (ok.ext e1) _ fun u H2 e2 r2 => by
    obtain ⟨vs, hvs, pv⟩ := r
    have hl : vs.length = ss.length := Paired.length pv
    refine ⟨p, k, vs, rfl, dn_int r2, e2 _ _ hvs, h1, h0, by rw [hl]; exact Nat.le_trans hz (by decide), fun l hl => ?_⟩
    refine q l _ (e1.free (e2.free hl)) ((e1.trans e2).trans (Ex.new hl)) ⟨_, upd_same, paired_rep (Paired.imp pv fun v s z => ?_) _⟩
    exact SvOk.fresh hl ((z.sub fun a y => Or.inl y).ext e2)
end
end DL
namespace DL
open PySem PySem.Spec PyProof.Rows L2
open Evl (Ex Ex.refl Ex.trans Ex.new)
theorem kEnum {X : Cx} {K : PySem.W.Frag} {e : Expr} {ta : TA} {p pos tpos : Pos} {elts : List Expr} {kk : Nat} (hg : Gl X "enumerate") (hm : X.mg "enumerate" = none) (ha : PA X [e] ta) (hs : starEach [e] X.env = [(false, eval e X.env)] := by rfl) (hk : X.K = K := by rfl) :
    PI X (.Tuple elts kk tpos) (.Call (.Name "enumerate" p) [e] [] pos) (iEnum K ta) := by subst hk; exact pi_enum hg hm ha hs
theorem ew_enum {c : Cn} {env : Sy} {os : List SO} {tl : TE} {ds : List PyData} (h : EvX false c env os tl (.list ds)) : EvW c env os (iEnum c.K (tCons tl tNil)) ds.length (fun i => .i (.tuple [.int (i : Int), ds.getD i .none])) (fun _ => True) := fun ad σ H ok R q =>
  h ad σ H ok _ fun v H1 e r => by
    rw [Nw_false] at r
    obtain ⟨a, rfl⟩ := dn_list_ref r
    obtain ⟨xs, hs, ax⟩ := sql_of_dn r
    refine ⟨a, xs, rfl, hs, q _ H1 ((.ref a, .i (.list ds)) :: c.fr) e ((ok.ext e).pin r) (up_pin (ok.ext e)) ⟨fun i ad' env' os' σ' H' hi o _ => ?_, fun ad' env' os' σ' H' o _ => ?_, fun i ad' env' os' σ' H' x H'' hi o _ y => ?_⟩⟩
    all_goals
      have r' : Dn c.K (Nof c ad' os') H' (.ref a) (.list ds) := o.frm _ (List.mem_cons_self ..)
      obtain ⟨ys, hy, ay⟩ := sql_of_dn r'
      have e2 := ay.length
    · exact ⟨ys, ys[i]'(by omega), hy, List.getElem?_eq_getElem _⟩
    · exact ⟨ys, hy, by omega⟩
    · obtain ⟨T, z, rfl, hT, rfl, y⟩ := y
      refine ⟨Ex.new hT, ?_⟩
      obtain ⟨d, h1, h2⟩ := ay.getV (y ys hy)
      rw [List.getD_eq_getElem?_getD, h1]
      exact Dn.tup (Or.inl (Or.inl upd_same)) (.cons (.int _) (.cons (h2.ext (Ex.new hT)) .nil))
end DL
namespace DL
open PySem PySem.Spec PyProof.Rows L2
open Evl (Ex Ex.refl Ex.trans Ex.new)
theorem inV_bl (i : Bool) (ns : List Bool) : inV (.bl i) (ns.map V.bl) = decide (i ∈ ns) := by
  unfold inV
  rw [List.any_map]
  by_cases h : i ∈ ns
  · rw [decide_eq_true h]
    exact List.any_eq_true.mpr ⟨i, h, by simp [eqV]⟩
  · rw [decide_eq_false h]
    refine Bool.eq_false_iff.mpr fun z => h ?_
    obtain ⟨y, hy, e⟩ := List.any_eq_true.mp z
    have e2 : y = i := by simpa [eqV] using e
    rw [← e2]
    exact hy
theorem flat_bls (ns : List Bool) : (ns.map V.bl).all flatV = true := by
  rw [List.all_map]
  exact List.all_eq_true.mpr fun _ _ => rfl
theorem ex_notinB {w : Bool} {c : Cn} {env : Sy} {os : List SO} {ta tb : TE} {i : Bool} {ns : List Bool} (ha : EvX true c env os ta (.bool i)) (hb : EvI c env os tb ((ns.map PyData.bool).map SV.i)) : EvX w c env os (tOp (rIn c.K true) ta tb) (.bool (!decide (i ∈ ns))) := fun ad σ H ok Q q =>
  ha ad σ H ok _ fun v H1 e1 r1 => hb ad σ H1 (ok.ext e1) _ fun p vs H2 e2 hs hx => by
    rw [bls_of hx] at hs
    cases dn_bool r1
    refine ⟨p, ns.map V.bl, rfl, Or.inl hs, rfl, flat_bls ns, ?_⟩
    show Q (.bl (!inV (.bl i) (ns.map V.bl))) H2
    rw [inV_bl]
    exact q _ H2 (e1.trans e2) (.bl _)
end DL

set_option Elab.async false
set_option linter.all false
set_option maxRecDepth 100000
set_option maxHeartbeats 2000000
/-! The data layer: == of dicts of data, max of three. -/
namespace DL
open PySem PySem.Spec PyProof.Rows L2
open Evl (Ex Ex.refl Ex.trans Ex.new)
/-- a datum that is equal to itself, place by place -/
structure Same1 (d : PyData) : Prop where
  al : PySem.W.alike d d = true
  eq : PyData.eqv d d = true
  dep : d.depth ≤ 8
def rNeDi (K : PySem.W.Frag) : R2 := fun x y H Q => ∃ a b ks ls, x = .ref a ∧ y = .ref b ∧ Rd H a (.dK ks) ∧ Rd H b (.dK ls) ∧ ks.length = ls.length ∧ (∀ p ∈ ks, ∃ v d, valV ls p.1 = some v ∧ Dp K H p.2 d ∧ Dp K H v d ∧ Same1 d) ∧ Q (.bl false) H
section
variable {X : Cx}
theorem op_neDi (hu : X.A.units + 64 < cLine) : OpR X (compareOp .NotEq) (rNeDi X.K) := by
  intro pins s σ H x y v u Q I rx ry h
  obtain ⟨a, b, ks, ls, rfl, rfl, ea, eb, hlen, hp, q⟩ := h
  obtain rfl : v = Value.ref a := rx
  obtain rfl : u = Value.ref b := ry
  obtain ⟨za, ya, va, ra, da⟩ := dk_rd I.hok ea
  obtain ⟨_, yb, vb, rb, db⟩ := dk_rd I.hok eb
  have hl : va.length = vb.length := by rw [← Paired.length ra, ← Paired.length rb]; exact hlen
  have hits : PySem.W.KeqHits X.A.in1 s vb va true := by
    clear da hl hlen ea za
    unfold KV at ra
    induction ra with
    | nil => exact .nil
    | @cons p q' ps qs h t ih =>
      obtain ⟨h1, h2⟩ := h
      obtain ⟨v', d, e, f1, f2, sd⟩ := hp p List.mem_cons_self
      have rr : RelO (some v') (valueAt vb p.1) := by rw [← e]; exact rb.val p.1
      obtain ⟨y, hy, ry⟩ := rr.some_of
      obtain ⟨k, v⟩ := q'
      have h1' : p.1 = k := h1
      rw [h1'] at hy
      obtain ⟨as, r1⟩ := Dp.reads I d _ _ f1 h2
      obtain ⟨bs, r2⟩ := Dp.reads I d _ _ f2 ry
      have he := PySem.W.eqAt_alike d d X.A.in1 s _ _ as bs r1 r2 sd.al (by
        have := sd.dep
        rw [Around.in1_units]
        omega)
      rw [sd.eq] at he
      exact PySem.W.KeqHits.hit hy he (ih fun p' hm => hp p' (List.mem_cons_of_mem _ hm))
  exact PySem.W.keq_ne (knd := mixKind X.prog X.w) (r := true) ya yb da db (by omega) (fun _ => hits) (fin_bl I q (by simp [hl]))
theorem kNeDi {K : PySem.W.Frag} (hu : X.A.units + 64 < cLine) (h : X.K = K := by rfl) : OpR X (compareOp .NotEq) (rNeDi K) := by subst h; exact op_neDi hu
end
section
variable {α β : Type} [DecidableEq α] {w : Bool} {c : Cn} {env : Sy} {os : List SO} {ta tb tc : TE} {ek : α → Key} {ev : β → PyData} {m : List (α × β)}
theorem getA_nodup {m : List (α × β)} (h : (m.map (·.1)).Nodup) {p : α × β} (hp : p ∈ m) : getA m p.1 = some p.2 := by
  induction m with
  | nil => cases hp
  | cons q m ih =>
    rw [getA_cons]
    rw [List.map_cons, List.nodup_cons] at h
    rcases List.mem_cons.mp hp with z | z
    · rw [z, if_pos rfl]
    · rw [if_neg (fun e => h.1 (by rw [e]; exact List.mem_map.mpr ⟨p, z, rfl⟩))]
      exact ih h.2 z
theorem paired_mem {γ δ : Type} {F : γ → δ → Prop} : ∀ {l1 : List γ} {l2 : List δ}, Paired F l1 l2 → ∀ a ∈ l1, ∃ b ∈ l2, F a b
  | _, _, .cons (a := a) (b := b) r t, x, hx => by
    rcases List.mem_cons.mp hx with z | z
    · rw [z]; exact ⟨b, List.mem_cons_self .., r⟩
    · obtain ⟨y, hy, f⟩ := paired_mem t x z
      exact ⟨y, List.mem_cons_of_mem _ hy, f⟩
/-- d != e, both of the same entries -/
theorem ex_neDict (hi : ∀ a b, ek a = ek b → a = b) (h1 : EvX true c env os ta (dKd ek ev m)) (h2 : EvX true c env os tb (dKd ek ev m)) (hn : (m.map (·.1)).Nodup) (hs : ∀ p ∈ m, Same1 (ev p.2)) : EvX w c env os (tOp (rNeDi c.K) ta tb) (.bool false) := fun ad σ H ok Q q =>
  h1 ad σ H ok _ fun v H1 e1 r1 => h2 ad σ H1 (ok.ext e1) _ fun u H2 e2 r2 => by
    obtain ⟨a, ws, rfl, ha, _, pa⟩ := dn_dK (r1.ext e2)
    obtain ⟨b, us, rfl, hb, _, pb⟩ := dn_dK r2
    refine ⟨a, b, ws, us, rfl, rfl, ha, hb, by rw [Paired.length pa, Paired.length pb], fun p hp => ?_, q _ H2 (e1.trans e2) (.bl _)⟩
    obtain ⟨y, hy, ek1, dn1⟩ := paired_mem pa p hp
    have hg := getA_nodup hn hy
    rcases val_dK (F := fun v b => Dn c.K (Nw true c ad os) H2 v (ev b)) hi pb y.1 with ⟨_, z⟩ | ⟨v', b', z1, z2, z3⟩
    · rw [hg] at z; cases z
    · rw [hg] at z2
      cases z2
      have sd := hs y hy
      have hpl := plain_alike _ sd.al
      exact ⟨v', ev y.2, by rw [ek1]; exact z1, Dn.dp _ _ hpl dn1, Dn.dp _ _ hpl z3, sd⟩
theorem ex_max3 {r : List V → Hp → VK → Prop} {i j k : Int} (hr : r = rNuC3 nuMax3) (ha : EvX true c env os ta (.int i)) (hb : EvX true c env os tb (.int j)) (hc : EvX true c env os tc (.int k)) : EvX w c env os (tCB r (tCons ta (tCons tb (tCons tc tNil)))) (.int (max (max i j) k)) := fun ad σ H ok Q q => by
  subst hr
  refine ha ad σ H ok _ fun v H1 e1 r1 => hb ad σ H1 (ok.ext e1) _ fun u H2 e2 r2 => hc ad σ H2 ((ok.ext e1).ext e2) _ fun z H3 e3 r3 => ?_
  cases dn_int r1
  cases dn_int r2
  cases dn_int r3
  refine ⟨.int i, .int j, .int k, .int (max (max i j) k), rfl, ?_, q _ H3 ((e1.trans e2).trans e3) (.int _)⟩
  have h2 : ∀ x y : Int, nuMax2 (.int x) (.int y) = some (.int (max x y)) := fun x y => by
    show (some (if decide (x < y) = true then V.int y else V.int x)) = _
    by_cases h : x < y
    · rw [if_pos (decide_eq_true h), Int.max_eq_right (by omega)]
    · rw [if_neg (by rw [decide_eq_false h]; decide), Int.max_eq_left (by omega)]
  show (nuMax2 (.int i) (.int j)).bind (fun m => nuMax2 m (.int k)) = _
  rw [h2]
  exact h2 _ _
end
end DL
namespace DL
open PySem PySem.Spec PyProof.Rows L2
theorem EvR.dataK {α β : Type} [DecidableEq α] {c : Cn} {env : Sy} {os : List SO} {te : TE} {ek : α → Key} {ev : β → PyData} {m : List (α × β)} {k : Nat} (h : EvR c env os te k) (hk : os[k]? = some (.dK (m.map fun p => (ek p.1, SV.i (ev p.2))))) : EvX true c env os te (dKd ek ev m) := fun ad σ H ok Q q => h.2 ad σ H ok Q fun H2 e => by
  have ok2 := ok.ext e
  obtain ⟨_, ws, h1, h2⟩ := ok2.obj k _ hk rfl
  exact q _ H2 e (dK_dn (Or.inl h1) (fun z => ok2.nn k ⟨_, hk, rfl⟩ (Nw_true _ z)) (Paired.imp (pairK h2) fun _ _ z => ⟨z.1, z.2.sub fun a y => Or.inl (Nw_true a y)⟩))
end DL

set_option Elab.async false
set_option linter.all false
set_option maxRecDepth 100000
set_option maxHeartbeats 2000000
/-! The data layer: a list of new lists; a list within a list becomes data. -/
namespace DL
open PySem L2
open Evl (Ex Ex.refl Ex.trans Ex.new)
theorem Ok.free0 {c : Cn} {ad : Nat → Addr} {env : Sy} {os : List SO} {σ : L2.St} {H : Hp} (ok : Ok c ad env os σ H) {p : Addr} (hp : H p = none) : c.H0 p = none ∨ c.M p := by
  by_cases hm : c.M p
  · exact Or.inr hm
  · refine Or.inl ?_
    cases hz : c.H0 p with
    | none => rfl
    | some o => rw [ok.ex p o hz hm] at hp; cases hp
/-- gives the object k of the store, which has grown to os' -/
def EvG (c : Cn) (env : Sy) (os : List SO) (te : TE) (k : Nat) (os' : List SO) : Prop := k < os'.length ∧ ∀ ad σ H, Ok c ad env os σ H → ∀ Q : VK, (∀ ad' H2, Ok c ad' env os' σ H2 → Q (.ref (ad' k)) H2) → te σ H Q
section
variable {c : Cn} {env env' : Sy} {os os' : List SO} {g : TG} {tt : TT} {te : TE} {u : TS} {D : Ends}
theorem gs_asgG {i k : Nat} (h : EvG c env os te k os') (kk : Go c (env.set i (some (.r k))) os' u D) : Go c env os (tSeq (tAsg te (gName i)) u) D := fun ad σ H ok =>
  h.2 ad σ H ok _ fun ad' H2 ok2 => kk ad' _ H2 (ok2.set ⟨rfl, h.1⟩)
def refL (n i : Nat) : List SV := (List.range i).map fun j => SV.r (n + 1 + j)
theorem refL_len (n i : Nat) : (refL n i).length = i := by simp [refL]
theorem refL_succ (n i : Nat) : refL n (i + 1) = refL n i ++ [.r (n + 1 + i)] := by unfold refL; rw [List.range_succ, List.map_append]; rfl
theorem set_mid {γ : Type} (os l : List γ) (a b : γ) : (os ++ a :: l).set os.length b = os ++ b :: l := by
  rw [List.set_append_right _ _ (Nat.le_refl _), Nat.sub_self]; rfl
/-- a comprehension whose element is a new list: the lists stand behind the list of them -/
theorem eg_lcL {α : Type} {wi : TI} {n : Nat} {it : Nat → SV} {G : List SO → Prop} {xs : List α} {e : α → SV} {vs : List Nat} (f : α → List PyData) (hw : EvW c env os wi n it G) (hn : n = xs.length) (hit : ∀ i x, xs[i]? = some x → it i = e x)
    (hG : ∀ more, G (os ++ more)) (hz : xs.length ≤ 40000)
    (hs : ∀ fr lo, Up c (c.w fr lo) → ∀ more x, x ∈ xs → ∃ env' js, (∀ j ∈ js, j ∈ vs) ∧ Tg (c.w fr lo) (wipeE env vs) (os ++ more) g (e x) env' js ∧ EvT (c.w fr lo) env' (os ++ more) tt true ∧ EvF (c.w fr lo) env' (os ++ more) te (.lst ((f x).map SV.i))) :
    EvG c env os (tLc wi g tt te vs) os.length (os ++ SO.lst (refL os.length xs.length) :: xs.map fun x => SO.lst ((f x).map SV.i)) := by
  subst hn
  refine ⟨by simp, fun ad σ H ok Q q => hw ad σ H ok _ fun J H1 fr e1 ok1 up W D hD => ?_⟩
  have ok2 := ok1.new (o := .lst []) hD (Ex.new (o := .lst []) hD) (ok1.free0 hD) ⟨[], upd_same, .nil⟩
  have ok3 := ok2.pin (v := .ref D) (s := .r os.length) ⟨congrArg V.ref adN_same.symm, by simp⟩
  have up2 := up_pin (v := .ref D) (s := .r os.length) ok2
  have hlo' : (os ++ [SO.lst []]).length = os.length + 1 := by simp
  generalize hlo : (os ++ [SO.lst []]).length = lo at ok3 up2
  generalize hfr : ((V.ref D, SV.r os.length) :: fr) = fr' at ok3 up2
  have upc : Up c (c.w fr' lo) := fun a b d e f z => up _ _ _ _ _ (up2 _ _ _ _ _ z)
  let O : Nat → List SO := fun i => os ++ SO.lst (refL os.length i) :: (xs.take i).map fun x => SO.lst ((f x).map SV.i)
  have atD : ∀ {ad env os' σ H}, Ok (c.w fr' lo) ad env os' σ H → D = ad os.length := fun {ad env os' σ H} o => by
    have h1 := o.frm (V.ref D, SV.r os.length) (by rw [← hfr]; exact List.mem_cons_self ..)
    obtain ⟨h2, _⟩ := (show V.ref D = .ref (ad os.length) ∧ _ from h1)
    cases h2
    rfl
  refine ⟨fun i m H => m = xs.length - i ∧ i ≤ xs.length ∧ ∃ ad', Ok (c.w fr' lo) ad' env (O i) σ H, ⟨xs.length, by simp, Nat.zero_le _, _, ok3⟩, ?_⟩
  rintro i m H' ⟨rfl, hi, ad', ok'⟩
  have hD' := atD ok'
  have hget : ∀ i, (O i)[os.length]? = some (.lst (refL os.length i)) := fun i => by
    show (os ++ SO.lst (refL os.length i) :: _)[os.length]? = _
    rw [List.getElem?_append_right (Nat.le_refl _), Nat.sub_self]
    rfl
  by_cases hlt : i < xs.length
  · have e0 : xs[i]? = some xs[i] := List.getElem?_eq_getElem hlt
    have et : xs.take (i + 1) = xs.take i ++ [xs[i]] := by rw [List.take_succ, e0]; rfl
    have okw := ok'.wipe vs
    have hOl : (O i).length = os.length + 1 + i := by
      show (os ++ SO.lst (refL os.length i) :: _).length = _
      rw [List.length_append, List.length_cons, List.length_map, List.length_take, Nat.min_eq_left hi]
      omega
    refine .inr ⟨W.goes i _ _ _ _ _ hlt (up2 _ _ _ _ _ okw) (hG _), fun H'' => ∃ ad', Ok (c.w fr' lo) ad' env (O (i + 1)) σ H'', fun H'' p' => ⟨xs.length - (i + 1), by omega, rfl, hlt, p'⟩, fun x H'' y => ?_⟩
    obtain ⟨e2, r⟩ := W.yields i _ _ _ _ _ x H'' hlt (up2 _ _ _ _ _ okw) (hG _) y
    rw [hit i xs[i] e0] at r
    have ok5 := okw.ext e2
    obtain ⟨env', js, hjs, ht, hb, he⟩ := hs fr' lo upc (SO.lst (refL os.length i) :: (xs.take i).map fun x => SO.lst ((f x).map SV.i)) xs[i] (List.getElem_mem hlt)
    refine ht _ _ H'' x ok5 r _ fun σ2 ok6 hwp => ⟨?_, hb _ σ2 H'' ok6 _ fun H3 e3 => ?_⟩
    · rw [hwp vs hjs]
      have idem : ∀ (us : List Nat) (τ : L2.St), (∀ j ∈ us, τ[j]? = some none ∨ τ[j]? = none) → wipe τ us = τ := by
        intro us
        induction us with
        | nil => intro τ _; rfl
        | cons u us ih =>
          intro τ h
          show (wipe τ us).set u none = τ
          rw [ih τ fun j hj => h j (List.mem_cons_of_mem _ hj)]
          rcases h u (List.mem_cons_self ..) with z | z
          · obtain ⟨h1, h2⟩ := List.getElem?_eq_some_iff.mp z
            exact List.ext_getElem? fun k => by
              by_cases q : u = k
              · subst q; rw [List.getElem?_set_self h1, z]
              · rw [List.getElem?_set_ne q]
          · exact List.set_eq_of_length_le (List.getElem?_eq_none_iff.mp z)
      refine idem vs _ fun j hj => ?_
      cases hx : (wipe σ vs)[j]? with
      | none => exact Or.inr rfl
      | some o =>
        cases o with
        | none => exact Or.inl rfl
        | some v => exact absurd hj (wipe_some hx).2
    · rw [if_pos rfl]
      refine he _ σ2 H3 (ok6.ext e3) _ fun p H4 hp e4 ry => ?_
      have ok7 := (ok'.ext e2).ext e3
      have okn := ok7.new hp e4 (ok7.free0 hp) ry
      have hgn : (O i ++ [SO.lst ((f xs[i]).map SV.i)])[os.length]? = some (.lst (refL os.length i)) := by
        rw [List.getElem?_append_left (by rw [hOl]; omega)]
        exact hget i
      have eD : adN ad' (O i).length p os.length = D := by rw [adN_ne (by rw [hOl]; omega)]; exact hD'.symm
      obtain ⟨_, ws, hws, pws⟩ := okn.obj os.length _ hgn rfl
      rw [eD] at hws
      refine ⟨ws, hws, ?_, ?_⟩
      · rw [Paired.length pws, refL_len]
        exact Nat.lt_of_lt_of_le (show i < 40000 by omega) (by decide)
      · have hN : Nof (c.w fr' lo) (adN ad' (O i).length p) (O i ++ [SO.lst ((f xs[i]).map SV.i)]) D := Or.inr ⟨os.length, ⟨_, hgn, rfl⟩, eD.symm⟩
        have m := okn.mut (o' := .lst (refL os.length (i + 1))) (u' := .lst (ws ++ [.ref p])) hgn rfl rfl (by
          rw [eD]
          refine ⟨_, upd_same, ?_⟩
          rw [refL_succ]
          refine paired_snoc (Paired.imp pws fun _ _ z => z.mut hws rfl hN) ⟨?_, by rw [List.length_append, hOl]; simp⟩
          rw [← hOl, adN_same])
        rw [eD] at m
        have es : (O i ++ [SO.lst ((f xs[i]).map SV.i)]).set os.length (SO.lst (refL os.length (i + 1))) = O (i + 1) := by
          show ((os ++ SO.lst (refL os.length i) :: _) ++ _).set _ _ = os ++ SO.lst (refL os.length (i + 1)) :: _
          rw [List.append_assoc, List.cons_append, set_mid, et, List.map_append]
          rfl
        rw [es] at m
        exact ⟨_, m⟩
  · have q0 : i = xs.length := by omega
    subst q0
    refine .inl ⟨W.stops _ _ _ _ _ (up2 _ _ _ _ _ (ok')) (hG _), ?_⟩
    rw [hD']
    have hO : O xs.length = os ++ SO.lst (refL os.length xs.length) :: xs.map fun x => SO.lst ((f x).map SV.i) := by
      show os ++ SO.lst (refL os.length xs.length) :: (xs.take xs.length).map _ = _
      rw [List.take_length]
    rw [hO] at ok'
    exact q ad' H' (upc _ _ _ _ _ ok')
end
section
variable {c : Cn} {env env' : Sy} {os os' : List SO} {u : TS} {D : Ends}
theorem paired_setS {α β : Type} {F G : α → β → Prop} {m : Nat} {y : β} : ∀ {l₁ : List α} {l₂ : List β}, Paired F l₁ l₂ → (∀ a b, F a b → G a b) → (∀ a b, l₂[m]? = some b → F a b → G a y) → Paired G l₁ (l₂.set m y)
  | _, _, .nil, _, _ => .nil
  | x :: xs, z :: zs, .cons a t, f, h => by
    cases m with
    | zero => exact .cons (h _ _ rfl a) (Paired.imp t f)
    | succ m => exact .cons (f _ _ a) (paired_setS t f fun a b e => h a b (by simpa using e))
/-- a list within a list is data from now on -/
theorem Ok.ownI {ad : Nat → Addr} {σ : L2.St} {H : Hp} {k j m : Nat} {ss : List SV} {ds : List PyData} (ok : Ok c ad env os σ H) (hk : os[k]? = some (.lst ss)) (hj : os[j]? = some (.lst (ds.map SV.i))) (hi : ss[m]? = some (.r j)) (kj : k ≠ j) :
    Ok c ad env ((os.set k (.lst (ss.set m (.i (.list ds))))).set j .x) σ H := by
  have lj : Lv os j := ⟨_, hj, rfl⟩
  have lk : Lv os k := ⟨_, hk, rfl⟩
  have kl := (List.getElem?_eq_some_iff.mp hk).1
  have jl := (List.getElem?_eq_some_iff.mp hj).1
  generalize hos : (os.set k (.lst (ss.set m (.i (.list ds))))).set j .x = os2
  have len : os2.length = os.length := by rw [← hos]; simp
  have hl : ∀ i, Lv os2 i → Lv os i ∧ i ≠ j := fun i h => by
    obtain ⟨u, e, hu⟩ := h
    rw [← hos] at e
    by_cases q : j = i
    · subst q
      rw [List.getElem?_set_self (by rw [List.length_set]; exact jl)] at e
      cases e; cases hu
    · rw [List.getElem?_set_ne q] at e
      by_cases q2 : k = i
      · subst q2; exact ⟨lk, fun z => q z.symm⟩
      · rw [List.getElem?_set_ne q2] at e
        exact ⟨⟨u, e, hu⟩, fun z => q z.symm⟩
  have hN : ∀ a, Nof c ad os2 a → Nof c ad os a ∧ a ≠ ad j := fun a h => by
    rcases h with h | ⟨i, l, e⟩
    · exact ⟨Or.inl h, fun z => ok.nn j lj (z ▸ h)⟩
    · obtain ⟨l', ne⟩ := hl i l
      exact ⟨Or.inr ⟨i, l', e⟩, fun z => ne (ok.inj i j l' lj (e.symm.trans z))⟩
  have hv : ∀ v s, SvOk c.K (Nof c ad os) ad os.length H v s → SvOk c.K (Nof c ad os2) ad os2.length H v s := fun v s h => by
    rw [len]
    exact h.sub fun a q => (hN a q).1
  obtain ⟨_, vs, hvs, pv⟩ := ok.obj j _ hj rfl
  have hd : Dn c.K (Nof c ad os2) H (.ref (ad j)) (.list ds) :=
    .lst (Or.inl hvs) (fun z => (hN _ z).2 rfl) ((paired_dn pv).sub fun a q => (hN a q).1)
  refine ⟨ok.len, ok.ex, ok.n0, fun i s h => ?_, fun i o h l => ?_, fun a b la lb => ok.inj a b (hl a la).1 (hl b lb).1, fun a la => ok.nn a (hl a la).1, fun p hp => (ok.frm p hp).sub fun a q => (hN a q).1, by rw [len]; exact ok.low⟩
  · obtain ⟨v, h1, h2⟩ := ok.val i s h
    exact ⟨v, h1, hv v s h2⟩
  · rw [← hos] at h
    by_cases q : j = i
    · subst q
      rw [List.getElem?_set_self (by rw [List.length_set]; exact jl)] at h
      cases h; cases l
    · rw [List.getElem?_set_ne q] at h
      by_cases q2 : k = i
      · subst q2
        rw [List.getElem?_set_self kl] at h
        cases h
        obtain ⟨h1, ws, hws, pw⟩ := ok.obj k _ hk rfl
        refine ⟨h1, ws, hws, paired_setS pw (fun a b z => hv _ _ z) fun a b e z => ?_⟩
        rw [hi] at e
        cases e
        obtain ⟨z1, z2⟩ := z
        show Dn _ _ _ _ _
        rw [z1]
        exact hd
      · rw [List.getElem?_set_ne q2] at h
        obtain ⟨h1, h2⟩ := ok.obj i o h l
        exact ⟨h1, h2.map hv fun u e => e⟩
/-- all lists of a list of lists, that stand behind it -/
theorem Ok.ownL {ad : Nat → Addr} {σ : L2.St} {H : Hp} : ∀ (dss : List (List PyData)) (done : List PyData) (mid : List SO), mid.length = done.length →
    Ok c ad env (os ++ SO.lst (done.map SV.i ++ (List.range dss.length).map fun j => SV.r (os.length + 1 + (done.length + j))) :: (mid ++ dss.map fun ds => SO.lst (ds.map SV.i))) σ H →
    Ok c ad env (os ++ SO.lst ((done ++ dss.map PyData.list).map SV.i) :: (mid ++ dss.map fun _ => SO.x)) σ H
  | [], done, mid, _, ok => by simpa using ok
  | ds :: dss, done, mid, hm, ok => by
    have hk : (os ++ SO.lst (done.map SV.i ++ (List.range (ds :: dss).length).map fun j => SV.r (os.length + 1 + (done.length + j))) :: (mid ++ (ds :: dss).map fun ds => SO.lst (ds.map SV.i)))[os.length]? = some (.lst (done.map SV.i ++ (List.range (ds :: dss).length).map fun j => SV.r (os.length + 1 + (done.length + j)))) := by
      rw [List.getElem?_append_right (Nat.le_refl _), Nat.sub_self]; rfl
    have hj : (os ++ SO.lst (done.map SV.i ++ (List.range (ds :: dss).length).map fun j => SV.r (os.length + 1 + (done.length + j))) :: (mid ++ (ds :: dss).map fun ds => SO.lst (ds.map SV.i)))[os.length + 1 + done.length]? = some (.lst (ds.map SV.i)) := by
      rw [List.getElem?_append_right (by omega), show os.length + 1 + done.length - os.length = done.length + 1 by omega, List.getElem?_cons_succ, List.getElem?_append_right (by omega), hm, Nat.sub_self]
      rfl
    have hi : (done.map SV.i ++ (List.range (ds :: dss).length).map fun j => SV.r (os.length + 1 + (done.length + j)))[done.length]? = some (.r (os.length + 1 + done.length)) := by
      rw [List.getElem?_append_right (by simp), List.length_map, Nat.sub_self, List.getElem?_map, List.getElem?_range (by simp)]
      rfl
    have ok2 := ok.ownI hk hj hi (by omega)
    have e1 : (done.map SV.i ++ (List.range (ds :: dss).length).map fun j => SV.r (os.length + 1 + (done.length + j))).set done.length (SV.i (PyData.list ds)) = (done ++ [PyData.list ds]).map SV.i ++ (List.range dss.length).map fun j => SV.r (os.length + 1 + ((done ++ [PyData.list ds]).length + j)) := by
      rw [List.set_append_right _ _ (by simp), List.length_map, Nat.sub_self, List.length_cons, List.range_succ_eq_map, List.map_cons, List.set_cons_zero, List.map_map, List.map_append, List.append_assoc]
      refine congrArg (done.map SV.i ++ ·) ?_
      show _ = [SV.i (PyData.list ds)] ++ _
      rw [List.singleton_append]
      refine congrArg (SV.i (PyData.list ds) :: ·) (List.map_congr_left fun j _ => ?_)
      show SV.r _ = SV.r _
      rw [List.length_append]
      simp
      omega
    rw [set_mid, e1] at ok2
    have e2 : ((os ++ SO.lst ((done ++ [PyData.list ds]).map SV.i ++ (List.range dss.length).map fun j => SV.r (os.length + 1 + ((done ++ [PyData.list ds]).length + j))) :: (mid ++ (ds :: dss).map fun ds => SO.lst (ds.map SV.i)))).set (os.length + 1 + done.length) .x =
        os ++ SO.lst ((done ++ [PyData.list ds]).map SV.i ++ (List.range dss.length).map fun j => SV.r (os.length + 1 + ((done ++ [PyData.list ds]).length + j))) :: ((mid ++ [SO.x]) ++ dss.map fun ds => SO.lst (ds.map SV.i)) := by
      rw [List.set_append_right _ _ (by omega), show os.length + 1 + done.length - os.length = done.length + 1 by omega, List.set_cons_succ, List.set_append_right _ _ (by omega), hm, Nat.sub_self, List.map_cons, List.set_cons_zero, List.append_assoc]
      rfl
    rw [e2] at ok2
    have r := Ok.ownL dss (done ++ [PyData.list ds]) (mid ++ [SO.x]) (by simp [hm]) ok2
    rw [List.append_assoc, List.append_assoc] at r
    exact r
theorem gs_ownL {dss : List (List PyData)} (hos : os' = os ++ SO.lst (refL os.length dss.length) :: dss.map fun ds => SO.lst (ds.map SV.i)) (g : Go c env (os ++ SO.lst ((dss.map PyData.list).map SV.i) :: dss.map fun _ => SO.x) u D) : Go c env os' u D := fun ad σ H ok =>
  g ad σ H (Ok.ownL (os := os) dss [] [] rfl (by rw [hos] at ok; simpa [refL] using ok))
end
end DL
namespace DL
open PySem L2
open Evl (Ex Ex.refl Ex.trans Ex.new)
/-! ### a dict comprehension -/
def dcM {α A B : Type} [DecidableEq A] (fk : α → A) (fv : α → B) (xs : List α) : List (A × B) := xs.foldl (fun m x => setA m (fk x) (fv x)) []
theorem dcM_snoc {α A B : Type} [DecidableEq A] (fk : α → A) (fv : α → B) (xs : List α) (x : α) : dcM fk fv (xs ++ [x]) = setA (dcM fk fv xs) (fk x) (fv x) := by unfold dcM; rw [List.foldl_append]; rfl
theorem dcM_len {α A B : Type} [DecidableEq A] (fk : α → A) (fv : α → B) : ∀ xs : List α, (dcM fk fv xs).length ≤ xs.length := by
  have go : ∀ (xs : List α) (m : List (A × B)), (xs.foldl (fun m x => setA m (fk x) (fv x)) m).length ≤ m.length + xs.length := by
    intro xs
    induction xs with
    | nil => intro m; exact Nat.le_refl _
    | cons x xs ih =>
      intro m
      have h1 := ih (setA m (fk x) (fv x))
      have h2 := setA_len m (fk x) (fv x)
      rw [List.foldl_cons, List.length_cons]
      omega
  intro xs
  simpa [dcM] using go xs []
section
variable {c : Cn} {env env' : Sy} {os os' : List SO} {g : TG} {tt : TT} {tk tv : TE} {u : TS} {D : Ends}
theorem ef_dc {α A B : Type} [DecidableEq A] {ek : A → Key} {ev : B → PyData} (inj : ∀ a b, ek a = ek b → a = b) {wi : TI} {n : Nat} {it : Nat → SV} {G : List SO → Prop} {xs : List α} {e : α → SV} {vs : List Nat} (fk : α → A) (fv : α → B) (hw : EvW c env os wi n it G) (hn : n = xs.length) (hit : ∀ i x, xs[i]? = some x → it i = e x)
    (hG : ∀ o, G (os ++ [o])) (hz : xs.length ≤ 40000)
    (hs : ∀ fr lo, Up c (c.w fr lo) → ∀ acc x, x ∈ xs → ∃ env' js, (∀ j ∈ js, j ∈ vs) ∧ Tg (c.w fr lo) (wipeE env vs) (os ++ [.dK acc]) g (e x) env' js ∧ EvT (c.w fr lo) env' (os ++ [.dK acc]) tt true ∧ EvX true (c.w fr lo) env' (os ++ [.dK acc]) tk (kdat (ek (fk x))) ∧ EvX false (c.w fr lo) env' (os ++ [.dK acc]) tv (ev (fv x))) :
    EvF c env os (tDc wi g tt tk tv vs) (.dK ((dcM fk fv xs).map fun p => (ek p.1, SV.i (ev p.2)))) := fun ad σ H ok Q q => by
  subst hn
  refine hw ad σ H ok _ fun J H1 fr e1 ok1 up W D hD => ?_
  have ok2 := ok1.new (o := .dK []) hD (Ex.new (o := .dK []) hD) (ok1.free0 hD) ⟨[], upd_same, .nil⟩
  have ok3 := ok2.pin (v := .ref D) (s := .r os.length) ⟨congrArg V.ref adN_same.symm, by simp⟩
  have ok4 := ok3.wipe vs
  have up2 := up_pin (v := .ref D) (s := .r os.length) ok2
  generalize hlo : (os ++ [SO.dK []]).length = lo at ok4 up2
  generalize hfr : ((V.ref D, SV.r os.length) :: fr) = fr' at ok4 up2
  have upc : Up c (c.w fr' lo) := fun a b d e f z => up _ _ _ _ _ (up2 _ _ _ _ _ z)
  let acc : Nat → List (Key × SV) := fun i => (dcM fk fv (xs.take i)).map fun p => (ek p.1, SV.i (ev p.2))
  have hacc : ∀ i, (acc i).length ≤ i := fun i => by
    show ((dcM fk fv (xs.take i)).map _).length ≤ i
    rw [List.length_map]
    have h1 := dcM_len fk fv (xs.take i)
    rw [List.length_take] at h1
    omega
  refine ⟨fun i m H => m = xs.length - i ∧ i ≤ xs.length ∧ Ok (c.w fr' lo) (adN ad os.length D) (wipeE env vs) (os ++ [.dK (acc i)]) (wipe σ vs) H ∧ Ex H1 H, ⟨xs.length, by simp, Nat.zero_le _, ok4, Ex.new hD⟩, ?_⟩
  rintro i m H' ⟨rfl, hi, ok', ex1⟩
  have hget : (os ++ [SO.dK (acc i)])[os.length]? = some (.dK (acc i)) := by simp
  by_cases hlt : i < xs.length
  · have e0 : xs[i]? = some xs[i] := List.getElem?_eq_getElem hlt
    have et : xs.take (i + 1) = xs.take i ++ [xs[i]] := by rw [List.take_succ, e0]; rfl
    refine .inr ⟨W.goes i _ _ _ _ _ hlt (up2 _ _ _ _ _ ok') (hG _), fun H'' => Ok (c.w fr' lo) (adN ad os.length D) (wipeE env vs) (os ++ [.dK (acc (i + 1))]) (wipe σ vs) H'' ∧ Ex H1 H'', fun H'' p' => ⟨xs.length - (i + 1), by omega, rfl, hlt, p'.1, p'.2⟩, fun x H'' y => ?_⟩
    obtain ⟨e2, r⟩ := W.yields i _ _ _ _ _ x H'' hlt (up2 _ _ _ _ _ ok') (hG _) y
    rw [hit i xs[i] e0] at r
    have ok5 := ok'.ext e2
    obtain ⟨env', js, hjs, ht, hb, hek, hev⟩ := hs fr' lo upc (acc i) xs[i] (List.getElem_mem hlt)
    refine ht _ _ H'' x ok5 r _ fun σ2 ok6 hwp => ⟨?_, hb _ σ2 H'' ok6 _ fun H3 e3 => ?_⟩
    · rw [hwp vs hjs]
      have idem : ∀ (us : List Nat) (τ : L2.St), (∀ j ∈ us, τ[j]? = some none ∨ τ[j]? = none) → wipe τ us = τ := by
        intro us
        induction us with
        | nil => intro τ _; rfl
        | cons u us ih =>
          intro τ h
          show (wipe τ us).set u none = τ
          rw [ih τ fun j hj => h j (List.mem_cons_of_mem _ hj)]
          rcases h u (List.mem_cons_self ..) with z | z
          · obtain ⟨h1, h2⟩ := List.getElem?_eq_some_iff.mp z
            exact List.ext_getElem? fun k => by
              by_cases q : u = k
              · subst q; rw [List.getElem?_set_self h1, z]
              · rw [List.getElem?_set_ne q]
          · exact List.set_eq_of_length_le (List.getElem?_eq_none_iff.mp z)
      refine idem vs _ fun j hj => ?_
      cases hx : (wipe σ vs)[j]? with
      | none => exact Or.inr rfl
      | some o =>
        cases o with
        | none => exact Or.inl rfl
        | some v => exact absurd hj (wipe_some hx).2
    · rw [if_pos rfl]
      refine hek _ σ2 H3 (ok6.ext e3) _ fun yk H4 e4 rk => hev _ σ2 H4 ((ok6.ext e3).ext e4) _ fun y H5 e5 ry => ?_
      have ok7 := ((ok5.ext e3).ext e4).ext e5
      obtain ⟨_, ws, hws, pws⟩ := ok7.obj os.length _ hget rfl
      rw [adN_same] at hws
      have ea : acc (i + 1) = setA (acc i) (ek (fk xs[i])) (SV.i (ev (fv xs[i]))) := by
        show (dcM fk fv (xs.take (i + 1))).map _ = _
        rw [et, dcM_snoc]
        exact (setA_enc (ev := fun b : B => SV.i (ev b)) inj _ _ _).symm
      refine ⟨ws, ek (fk xs[i]), dn_key rk, hws, ?_, ?_⟩
      · rw [Paired.length pws]
        exact Nat.lt_of_le_of_lt (hacc i) (Nat.lt_of_lt_of_le (show i < 40000 by omega) (by decide))
      · have hN : Nof (c.w fr' lo) (adN ad os.length D) (os ++ [SO.dK (acc i)]) D := Or.inr ⟨os.length, ⟨_, hget, rfl⟩, adN_same.symm⟩
        rw [Nw_false] at ry
        have m := ok7.mut (o' := .dK (acc (i + 1))) (u' := .dK (putK ws (ek (fk xs[i])) y)) hget rfl rfl (by
          rw [adN_same]
          refine ⟨_, upd_same, ?_⟩
          rw [ea]
          exact put_set (Paired.imp pws fun _ _ z => ⟨z.1, z.2.mut hws rfl hN⟩) (show SvOk _ _ _ _ _ _ (SV.i _) from Dn.mut hws rfl hN ry))
        rw [adN_same] at m
        have es : (os ++ [SO.dK (acc i)]).set os.length (SO.dK (acc (i + 1))) = os ++ [SO.dK (acc (i + 1))] := by
          rw [List.set_append_right _ _ (Nat.le_refl _), Nat.sub_self]
          rfl
        rw [es] at m
        refine ⟨m, fun a o h => ?_⟩
        rw [upd_ne (ne_of_none h hD)]
        exact (((ex1.trans e2).trans e3).trans e4).trans e5 a o h
  · have q0 : i = xs.length := by omega
    subst q0
    have ea : acc xs.length = (dcM fk fv xs).map fun p => (ek p.1, SV.i (ev p.2)) := by
      show (dcM fk fv (xs.take xs.length)).map _ = _
      rw [List.take_length]
    refine .inl ⟨W.stops _ _ _ _ _ (up2 _ _ _ _ _ ok') (hG _), ?_⟩
    obtain ⟨_, ws, hws, pws⟩ := ok'.obj os.length _ hget rfl
    rw [adN_same] at hws
    refine q D H' (e1.free hD) (e1.trans ex1) ⟨ws, hws, ?_⟩
    have hget2 := hget
    rw [ea] at pws hget2
    refine pairKi (Paired.imp (pairK pws) fun x y z => ⟨z.1, z.2.sub fun a z => ?_⟩)
    rcases z with z | z
    · rcases z with z | ⟨k, ⟨o, h1, h2⟩, z⟩
      · exact Or.inl z
      · have hk : k < os.length := (List.getElem?_eq_some_iff.mp h1).1
        exact Or.inr ⟨k, ⟨o, by rw [List.getElem?_append_left hk]; exact h1, h2⟩, by rw [adN_ne (by omega)]; exact z⟩
    · exact Or.inr ⟨os.length, ⟨_, hget2, rfl⟩, by rw [adN_same]; exact z⟩
end
end DL
namespace L2
open PySem PySem.Spec PyProof.Rows
section
variable {X : Cx} {o lo hi : Expr} {to tl th : TE} {p2 pos : Pos}
/-- xs[i:j] = ys -/
def gSl (to tl th : TE) : TG := fun v σ H Q => to σ H fun o H1 => tl σ H1 fun a H2 => th σ H2 fun c H3 => ∃ (l b : Addr) (xs ys : List V) (i j : Int), o = .ref l ∧ v = .ref b ∧ a = .int i ∧ c = .int j ∧ H3 l = some (.lst xs) ∧ H3 b = some (.lst ys) ∧ l ≠ b ∧ 0 ≤ i ∧ i ≤ j ∧ j ≤ xs.length ∧ xs.length + ys.length ≤ sizeLine ∧
  Q σ (upd H3 l (.lst (xs.take i.toNat ++ ys ++ xs.drop j.toNat)))
theorem pg_sl (ho : PE X o to) (hl : PE X lo tl) (hh : PE X hi th)
    (ha : ∀ v, assign (.Subscript o (.Slice (some lo) (some hi) none p2) pos) X.env v = (do
      let ov ← holding [v] (eval o X.env)
      let iv ← holding [v, ov] (eval (.Slice (some lo) (some hi) none p2) X.env)
      standAt pos
      holding [v, ov, iv] (setItem ov iv v)
      release [iv, v, ov] []) := by intro _; rfl) : PG X (.Subscript o (.Slice (some lo) (some hi) none p2) pos) (gSl to tl th) := by
  refine ⟨fun pins s σ H v u Q I r h => ?_⟩
  rw [ha]
  refine wpAny_bind (wpAny_holding (thn (ho.run pins s σ H _ I h) fun ov s1 ⟨x, H1, I1, r1, q1⟩ => ?_))
  refine wpAny_bind (wpAny_holding (wpAny_Slice ?_))
  show wpAny _ _ (eval lo X.env) _ _ s1
  refine thn (hl.run pins s1 σ H1 _ I1 q1) fun vl s2 ⟨y, H2, I2, r2, q2⟩ => ?_
  show wpAny _ _ (eval hi X.env) _ _ s2
  refine thn (hh.run pins s2 σ H2 _ I2 q2) fun vu s3 ⟨z, H3, I3, r3, q3⟩ => ?_
  rw [evalPart_none]
  refine wpAny_pure ?_
  obtain ⟨l, b, xs, ys, i, j, rfl, rfl, rfl, rfl, hxl, hyb, hne, h0, hij, hj, hz, q⟩ := q3
  have I4 : Inv X pins σ H3 { s3 with heap := s3.heap.push { cls := .type "slice", data := .fields #[vl, vu, .none] } } := I3.kept (t' := s3.toks) fun b ob q => Heap.get?_push_of_some _ q
  obtain rfl : ov = Value.ref l := r1
  obtain rfl : u = Value.ref b := r
  refine wpAny_bind (wpAny_standAt (wpAny_bind (wpAny_holding (set_slice I4 hxl hyb hne (Heap.IsSliceOf.new ..) r2 r3 h0 hij hj hz fun s5 I5 => ?_))))
  exact wpAny_release ⟨σ, _, I5, q⟩
end
end L2
namespace DL
open PySem L2
open Evl (Ex Ex.refl Ex.trans Ex.new)
section
variable {c : Cn} {env env' : Sy} {os os' : List SO} {te tl ta tb : TE} {u : TS} {D : Ends}
theorem gs_setSl {k : Nat} {ss us : List SV} {i j : Int} (h : EvF c env os te (.lst us)) (hl : EvR c env os tl k) (hk : os[k]? = some (.lst ss)) (hi : EvX true c env os ta (.int i)) (hj : EvX true c env os tb (.int j)) (h0 : 0 ≤ i) (hij : i ≤ j) (hjl : j ≤ ss.length) (hz : ss.length + us.length ≤ 100000)
    (g : Go c env (os.set k (.lst (ss.take i.toNat ++ us ++ ss.drop j.toNat))) u D) : Go c env os (tSeq (tAsg te (gSl tl ta tb)) u) D := fun ad σ H ok =>
  h ad σ H ok _ fun p H1 hp e1 r => hl.2 ad σ H1 (ok.ext e1) _ fun H2 e2 => hi ad σ H2 ((ok.ext e1).ext e2) _ fun y H3 e3 r3 => hj ad σ H3 (((ok.ext e1).ext e2).ext e3) _ fun z H4 e4 r4 => by
    have ok4 := (((ok.ext e1).ext e2).ext e3).ext e4
    obtain ⟨_, vs, hvs, pv⟩ := ok4.obj k _ hk rfl
    obtain ⟨ws, hws, pw⟩ := r
    have e14 := (e2.trans e3).trans e4
    have hN : Nof c ad os (ad k) := Or.inr ⟨k, ⟨_, hk, rfl⟩, rfl⟩
    have hne : ad k ≠ p := fun z => by
      obtain ⟨_, vs0, hvs0, _⟩ := ok.obj k _ hk rfl
      rw [z] at hvs0
      rw [hp] at hvs0
      cases hvs0
    refine ⟨ad k, p, vs, ws, i, j, rfl, rfl, dn_int r3, dn_int r4, hvs, e14 _ _ hws, hne, h0, hij, by rw [Paired.length pv]; exact hjl, by rw [Paired.length pv, Paired.length pw]; exact Nat.le_trans hz (by decide), g ad σ _ (ok4.mut hk rfl rfl ⟨_, upd_same, ?_⟩)⟩
    have p1 : Paired (SvOk c.K (Nof c ad os) ad os.length (upd H4 (ad k) (.lst (vs.take i.toNat ++ ws ++ vs.drop j.toNat)))) vs ss := Paired.imp pv fun _ _ z => z.mut hvs rfl hN
    have p2 : Paired (SvOk c.K (Nof c ad os) ad os.length (upd H4 (ad k) (.lst (vs.take i.toNat ++ ws ++ vs.drop j.toNat)))) ws us := Paired.imp pw fun _ _ z => ((z.ext e14).sub fun a y => Or.inl y).mut hvs rfl hN
    exact paired_app (paired_app (DL.Paired.take _ p1) p2) (DL.Paired.drop _ p1)
end
end DL

set_option Elab.async false
set_option linter.all false
set_option maxRecDepth 100000
set_option maxHeartbeats 2000000
/-! enumerate(zip(a, b)) over two lists. -/
namespace EZ
open PySem PySem.Spec PyProof.Rows L2
section
variable {prog : Program} {w : World} {A : Around} {E : Value → Shared → Prop} {s : Shared}
theorem alive_none {a : Addr} {Q : Option Obj → Shared → Prop} (ho : s.heap.get? a = none) (h : Q none s) : wpAny (model prog w) A (loadIfAlive a) Q E s := by
  intro Γ p hΓ
  show Sem.wp _ _ (.loadIfAlive a .pure) _ _ _ _
  simp only [Sem.wp, ho]
  exact h
/-- the zip's tuple is gone: it may be used again -/
theorem zip_gone {z TI TO T : Addr} {f : Bool} {Q : Bool → Shared → Prop} (hz : IsZipHeld s.heap z TI TO T f) (hT : s.heap.get? T = none) (h : Q true s) : wpAny (model prog w) A (Builtin.SmallTypes.ownedTupleIsFree (.ref z)) Q E s := by
  unfold Builtin.SmallTypes.ownedTupleIsFree
  refine wpAny_bind (wpAny_field hz rfl (x := rawInt T) rfl ?_)
  show wpAny _ _ (loadIfAlive ((T : Int).toNat) >>= _) _ _ _
  rw [Int.toNat_natCast]
  refine wpAny_bind (alive_none hT ?_)
  simp only [Option.isNone_none, if_true]
  exact wpAny_pure h

/-- what the next item of a zip leaves behind -/
def ZOut (h h' : Heap) (z TI TO i1 i2 l1 l2 : Addr) (k1 k2 : Nat) (x y : Value) : Prop :=
  (∃ T f, IsZipHeld h' z TI TO T f) ∧ (∃ a b, IsPair h' TO a b) ∧ h'.IsListIter i1 l1 (k1 + 1) ∧ h'.IsListIter i2 l2 (k2 + 1) ∧ IsPair h' h.objs.size x y ∧ h'.objs.size = h.objs.size + 1 ∧
    ∀ c o, c ≠ z → c ≠ TO → c ≠ i1 → c ≠ i2 → h.get? c = some o → h'.get? c = some o
theorem zip_item_gone {z TI TO T i1 i2 l1 l2 : Addr} {f : Bool} {k1 k2 : Nat} {xs ys : Array Value} {x y a b : Value} {Q : Value → Shared → Prop} (D : ZipApart z TI TO i1 i2 l1 l2)
    (hz : IsZipHeld s.heap z TI TO T f) (hT : s.heap.get? T = none) (hTI : IsPair s.heap TI (.ref i1) (.ref i2)) (hTO : IsPair s.heap TO a b)
    (h1 : s.heap.IsListIter i1 l1 k1) (h2 : s.heap.IsListIter i2 l2 k2) (hl1 : s.heap.IsList l1 xs) (hl2 : s.heap.IsList l2 ys) (hx : xs[k1]? = some x) (hy : ys[k2]? = some y)
    (hQ : ∀ h', ZOut s.heap h' z TI TO i1 i2 l1 l2 k1 k2 x y → Q (.ref s.heap.objs.size) { s with heap := h' }) :
    wpAny (model prog w) A (Builtin.«zip.__next__» ⟨[.ref z], []⟩) (fun fin s' => ∃ v, fin = .done (.ret v) ∧ Q v s') E s := by
  show wpAny _ _ (field (.ref z) 2 >>= _) _ _ _
  refine wpAny_bind (wpAny_field hz rfl (x := .bool false) rfl ?_)
  show wpAny _ _ (field (.ref z) 3 >>= _) _ _ _
  refine wpAny_bind (wpAny_field hz rfl (x := .ref TI) rfl ?_)
  refine wpAny_bind (wpAny_seqItems hTI rfl ?_)
  show wpAny _ _ (Builtin.SmallTypes.ownedTupleIsFree (.ref z) >>= _) _ _ _
  refine wpAny_bind (zip_gone hz hT ?_)
  simp only [if_true]
  refine wpAny_bind (wpAny_rule ?_)
  refine wpAny_bind (wpAny_field hz rfl (x := .ref TO) rfl ?_)
  refine wpAny_bind (wpAny_setField_rec hz (by simp) fun g1 z1 s1 => ?_)
  refine wpAny_bind ?_
  simp only [List.zipIdx_cons, List.zipIdx_nil, List.forIn_cons, List.forIn_nil]
  refine wpAny_bind (wpAny_bind (wpAny_onRaise ?_))
  show wpAny _ _ (Builtin.SmallTypes.nextOf (.ref i1) >>= _) _ _ _
  refine wpAny_bind (wpAny_nextOf_list_item (h1.extBut s1.extBut D.i1z) (hl1.extBut s1.extBut D.l1z) hx fun g2 q2 s2 => wpAny_pure ?_)
  have t2 : IsPair g2 TO a b := s2.extBut _ _ D.TOi1 (s1.extBut _ _ D.TOz hTO)
  refine wpAny_bind (wpAny_seqItems t2 rfl ?_)
  refine wpAny_bind (wpAny_updateSeq_pair t2 fun g3 t3 s3 => ?_)
  replace t3 : IsPair g3 TO x b := t3
  refine wpAny_bind (wpAny_letGo (wpAny_pure ?_))
  refine wpAny_bind (wpAny_bind (wpAny_onRaise ?_))
  show wpAny _ _ (Builtin.SmallTypes.nextOf (.ref i2) >>= _) _ _ _
  refine wpAny_bind (wpAny_nextOf_list_item (((h2.extBut s1.extBut D.i2z).extBut s2.extBut D.i12.symm).extBut s3.extBut D.TOi2.symm) (((hl2.extBut s1.extBut D.l2z).extBut s2.extBut D.l2i1).extBut s3.extBut D.l2TO) hy fun g4 q4 s4 => wpAny_pure ?_)
  have t4 : IsPair g4 TO x b := s4.extBut _ _ D.TOi2 t3
  refine wpAny_bind (wpAny_seqItems t4 rfl ?_)
  refine wpAny_bind (wpAny_updateSeq_pair t4 fun g5 t5 s5 => ?_)
  replace t5 : IsPair g5 TO x y := t5
  refine wpAny_bind (wpAny_letGo (wpAny_pure (wpAny_pure ?_)))
  refine wpAny_bind (wpAny_seqItems t5 rfl ?_)
  refine wpAny_bind (wpAny_newTuple ?_)
  have sz : g5.objs.size = s.heap.objs.size := by rw [s5.1, s4.1, s3.1, s2.1, s1.1]
  have k5 : ∀ c o, c ≠ z → c ≠ TO → c ≠ i1 → c ≠ i2 → s.heap.get? c = some o → g5.get? c = some o := fun c o c1 c2 c3 c4 e => s5.extBut _ _ c2 (s4.extBut _ _ c4 (s3.extBut _ _ c2 (s2.extBut _ _ c3 (s1.extBut _ _ c1 e))))
  have r1 : g5.IsListIter i1 l1 (k1 + 1) := ((q2.extBut s3.extBut D.TOi1.symm).extBut s4.extBut D.i12).extBut s5.extBut D.TOi1.symm
  have r2 : g5.IsListIter i2 l2 (k2 + 1) := q4.extBut s5.extBut D.TOi2.symm
  have z5 := s5.extBut _ _ D.TOz.symm (s4.extBut _ _ D.i2z.symm (s3.extBut _ _ D.TOz.symm (s2.extBut _ _ D.i1z.symm z1)))
  have zl : z < g5.objs.size := Heap.lt_size z5
  refine wpAny_bind ?_
  show wpAny _ _ (Builtin.SmallTypes.ownedTupleHandOut (.ref z) (.ref g5.objs.size)) _ _ _
  unfold Builtin.SmallTypes.ownedTupleHandOut
  have z6 := Heap.get?_push_of_some (o := { cls := .type "tuple", data := .seq #[x, y] }) z5
  refine wpAny_bind (wpAny_setField_rec z6 (by simp) fun g7 z7 s7 => ?_)
  refine wpAny_setField_rec z7 (by simp) fun g8 z8 s8 => ?_
  have up : ∀ c o, c ≠ z → g5.get? c = some o → g8.get? c = some o := fun c o c1 e => s8.extBut _ _ c1 (s7.extBut _ _ c1 (Heap.get?_push_of_some _ e))
  have p8 : IsPair g8 g5.objs.size x y := s8.extBut _ _ (Nat.ne_of_gt zl) (s7.extBut _ _ (Nat.ne_of_gt zl) (Heap.get?_push_size _ rfl))
  have e8 : g8.objs.size = g5.objs.size + 1 := by rw [s8.1, s7.1, Heap.size_push]
  have z9 : IsZipHeld g8 z TI TO g5.objs.size false := z8
  refine wpAny_pure ⟨_, rfl, ?_⟩
  show Q (.ref g5.objs.size) _
  rw [sz] at p8 e8 z9 ⊢
  exact hQ g8 ⟨⟨_, _, z9⟩, ⟨_, _, up _ _ D.TOz t5⟩, r1.at fun o e => up _ o D.i1z e, r2.at fun o e => up _ o D.i2z e, p8, e8, fun c o c1 c2 c3 c4 e => up c o c1 (k5 c o c1 c2 c3 c4 e)⟩
/-- a zip in any state between its items -/
def ZSt (h : Heap) (z TI TO : Addr) : Prop := IsZip h z TI TO .none ∨ ∃ T f, IsZipHeld h z TI TO T f
theorem zip_item {z TI TO i1 i2 l1 l2 : Addr} {k1 k2 : Nat} {xs ys : Array Value} {x y a b : Value} {Q : Value → Shared → Prop} (D : ZipApart z TI TO i1 i2 l1 l2)
    (hz : ZSt s.heap z TI TO) (hTI : IsPair s.heap TI (.ref i1) (.ref i2)) (hTO : IsPair s.heap TO a b)
    (h1 : s.heap.IsListIter i1 l1 k1) (h2 : s.heap.IsListIter i2 l2 k2) (hl1 : s.heap.IsList l1 xs) (hl2 : s.heap.IsList l2 ys) (hx : xs[k1]? = some x) (hy : ys[k2]? = some y)
    (hQ : ∀ h', ZOut s.heap h' z TI TO i1 i2 l1 l2 k1 k2 x y → Q (.ref s.heap.objs.size) { s with heap := h' }) :
    wpAny (model prog w) A (Builtin.«zip.__next__» ⟨[.ref z], []⟩) (fun fin s' => ∃ v, fin = .done (.ret v) ∧ Q v s') E s := by
  rcases hz with hz | ⟨T, f, hz⟩
  · exact zip_next_item D hz hTI hTO h1 h2 hl1 hl2 hx hy fun h' a1 a2 a3 a4 a5 a6 hk => hQ h' ⟨⟨_, _, a1⟩, ⟨_, _, a2⟩, a3, a4, a5, a6, hk⟩
  · cases hT : s.heap.get? T with
    | none => exact zip_item_gone D hz hT hTI hTO h1 h2 hl1 hl2 hx hy hQ
    | some oT => exact zip_next_item_held D hz hT hTI h1 h2 hl1 hl2 hx hy fun h' a1 a3 a4 a5 a6 hk => hQ h' ⟨⟨_, _, a1⟩, ⟨_, _, hk _ _ D.TOz D.TOi1 D.TOi2 hTO⟩, a3, a4, a5, a6, fun c o c1 _ c3 c4 e => hk c o c1 c3 c4 e⟩
theorem zip_end_gone {z TI TO T i1 i2 l1 l2 : Addr} {f : Bool} {k1 k2 : Nat} {xs ys : Array Value} {a b : Value} {Q : PySem.Fin → Shared → Prop} (hh : A.handled = none) (D : ZipApart z TI TO i1 i2 l1 l2)
    (hz : IsZipHeld s.heap z TI TO T f) (hT : s.heap.get? T = none) (hTI : IsPair s.heap TI (.ref i1) (.ref i2)) (hTO : IsPair s.heap TO a b)
    (h1 : s.heap.IsListIter i1 l1 k1) (h2 : s.heap.IsListIter i2 l2 k2) (hl1 : s.heap.IsList l1 xs) (hl2 : s.heap.IsList l2 ys) (hend : xs[k1]? = none ∨ ys[k2]? = none)
    (hE : ∀ h' e, (∀ c o, c ≠ z → c ≠ TO → c ≠ i1 → c ≠ i2 → s.heap.get? c = some o → h'.get? c = some o) → (∃ o, h'.get? e = some o ∧ o.cls = .type "StopIteration") → E (.ref e) { s with heap := h' }) :
    wpAny (model prog w) A (Builtin.«zip.__next__» ⟨[.ref z], []⟩) Q E s := by
  show wpAny _ _ (field (.ref z) 2 >>= _) _ _ _
  refine wpAny_bind (wpAny_field hz rfl (x := .bool false) rfl ?_)
  show wpAny _ _ (field (.ref z) 3 >>= _) _ _ _
  refine wpAny_bind (wpAny_field hz rfl (x := .ref TI) rfl ?_)
  refine wpAny_bind (wpAny_seqItems hTI rfl ?_)
  show wpAny _ _ (Builtin.SmallTypes.ownedTupleIsFree (.ref z) >>= _) _ _ _
  refine wpAny_bind (zip_gone hz hT ?_)
  simp only [if_true]
  refine wpAny_bind (wpAny_rule ?_)
  refine wpAny_bind (wpAny_field hz rfl (x := .ref TO) rfl ?_)
  refine wpAny_bind (wpAny_setField_rec hz (by simp) fun g1 z1 s1 => ?_)
  refine wpAny_bind ?_
  simp only [List.zipIdx_cons, List.zipIdx_nil, List.forIn_cons, List.forIn_nil]
  refine wpAny_bind (wpAny_bind (wpAny_onRaise ?_))
  show wpAny _ _ (Builtin.SmallTypes.nextOf (.ref i1) >>= _) _ _ _
  cases hx : xs[k1]? with
  | none =>
    refine wpAny_bind (wpAny_nextOf_list_end hh (h1.extBut s1.extBut D.i1z) (hl1.extBut s1.extBut D.l1z) hx fun g2 e s2 he => ?_)
    obtain ⟨oe, hoe, hce⟩ := he
    have z2 := s2 _ _ D.i1z.symm z1
    have hez : e ≠ z := fun x => by subst x; rw [z2] at hoe; cases hoe; simp at hce
    refine wpAny_setField_rec z2 (by simp) fun g3 _ s3 => hE g3 e (fun c o c1 _ c3 _ x => s3.extBut _ _ c1 (s2 _ _ c3 (s1.extBut _ _ c1 x))) ⟨oe, s3.extBut _ _ hez hoe, hce⟩
  | some x =>
    have hy : ys[k2]? = none := by rcases hend with h | h; rw [hx] at h; cases h; exact h
    refine wpAny_bind (wpAny_nextOf_list_item (h1.extBut s1.extBut D.i1z) (hl1.extBut s1.extBut D.l1z) hx fun g2 q2 s2 => wpAny_pure ?_)
    have t2 : IsPair g2 TO a b := s2.extBut _ _ D.TOi1 (s1.extBut _ _ D.TOz hTO)
    refine wpAny_bind (wpAny_seqItems t2 rfl ?_)
    refine wpAny_bind (wpAny_updateSeq_pair t2 fun g3 t3 s3 => ?_)
    refine wpAny_bind (wpAny_letGo (wpAny_pure ?_))
    refine wpAny_bind (wpAny_bind (wpAny_onRaise ?_))
    show wpAny _ _ (Builtin.SmallTypes.nextOf (.ref i2) >>= _) _ _ _
    refine wpAny_bind (wpAny_nextOf_list_end hh (((h2.extBut s1.extBut D.i2z).extBut s2.extBut D.i12.symm).extBut s3.extBut D.TOi2.symm)
      (((hl2.extBut s1.extBut D.l2z).extBut s2.extBut D.l2i1).extBut s3.extBut D.l2TO) hy fun g4 e s4 he => ?_)
    obtain ⟨oe, hoe, hce⟩ := he
    have z4 := s4 _ _ D.i2z.symm (s3.extBut _ _ D.TOz.symm (s2.extBut _ _ D.i1z.symm z1))
    have hez : e ≠ z := fun x => by subst x; rw [z4] at hoe; cases hoe; simp at hce
    refine wpAny_setField_rec z4 (by simp) fun g5 _ s5 => hE g5 e (fun c o c1 c2 c3 c4 x => s5.extBut _ _ c1 (s4 _ _ c4 (s3.extBut _ _ c2 (s2.extBut _ _ c3 (s1.extBut _ _ c1 x))))) ⟨oe, s5.extBut _ _ hez hoe, hce⟩
theorem zip_end {z TI TO i1 i2 l1 l2 : Addr} {k1 k2 : Nat} {xs ys : Array Value} {a b : Value} {Q : PySem.Fin → Shared → Prop} (hh : A.handled = none) (D : ZipApart z TI TO i1 i2 l1 l2)
    (hz : ZSt s.heap z TI TO) (hTI : IsPair s.heap TI (.ref i1) (.ref i2)) (hTO : IsPair s.heap TO a b)
    (h1 : s.heap.IsListIter i1 l1 k1) (h2 : s.heap.IsListIter i2 l2 k2) (hl1 : s.heap.IsList l1 xs) (hl2 : s.heap.IsList l2 ys) (hend : xs[k1]? = none ∨ ys[k2]? = none)
    (hE : ∀ h' e, (∀ c o, c ≠ z → c ≠ TO → c ≠ i1 → c ≠ i2 → s.heap.get? c = some o → h'.get? c = some o) → (∃ o, h'.get? e = some o ∧ o.cls = .type "StopIteration") → E (.ref e) { s with heap := h' }) :
    wpAny (model prog w) A (Builtin.«zip.__next__» ⟨[.ref z], []⟩) Q E s := by
  rcases hz with hz | ⟨T, f, hz⟩
  · exact zip_next_end hh D hz hTI hTO h1 h2 hl1 hl2 hend hE
  · cases hT : s.heap.get? T with
    | none => exact zip_end_gone hh D hz hT hTI hTO h1 h2 hl1 hl2 hend hE
    | some oT => exact zip_next_end_held hh D hz hT hTI h1 h2 hl1 hl2 hend fun h' e hk he => hE h' e (fun c o c1 _ c3 c4 x => hk c o c1 c3 c4 x) he
theorem zst_type {z TI TO : Addr} (hz : ZSt s.heap z TI TO) : s.TypeIs (.ref z) "zip" := by
  rcases hz with hz | ⟨T, f, hz⟩
  · exact ⟨_, hz, rfl⟩
  · exact ⟨_, hz, rfl⟩
theorem nextOf_zip_item {z TI TO i1 i2 l1 l2 : Addr} {k1 k2 : Nat} {xs ys : Array Value} {x y a b : Value} {Q : Value → Shared → Prop} (D : ZipApart z TI TO i1 i2 l1 l2)
    (hz : ZSt s.heap z TI TO) (hTI : IsPair s.heap TI (.ref i1) (.ref i2)) (hTO : IsPair s.heap TO a b)
    (h1 : s.heap.IsListIter i1 l1 k1) (h2 : s.heap.IsListIter i2 l2 k2) (hl1 : s.heap.IsList l1 xs) (hl2 : s.heap.IsList l2 ys) (hx : xs[k1]? = some x) (hy : ys[k2]? = some y)
    (hQ : ∀ h', ZOut s.heap h' z TI TO i1 i2 l1 l2 k1 k2 x y → Q (.ref s.heap.objs.size) { s with heap := h' }) : wpAny (model prog w) A (Builtin.SmallTypes.nextOf (.ref z)) Q E s := by
  unfold Builtin.SmallTypes.nextOf
  exact wpAny_bind (wpAny_callSpecial?_slot (name := Str.ofString "__next__") (zst_type hz) F.slot_zip_next (wpAny_call_entry F.slot_zip_next (zst_type hz) F.entry_zip_next
    (zip_item D hz hTI hTO h1 h2 hl1 hl2 hx hy fun h' o => wpAny_pure (hQ h' o)) (F.args_zip_next_1 _)))
theorem nextOf_zip_end {z TI TO i1 i2 l1 l2 : Addr} {k1 k2 : Nat} {xs ys : Array Value} {a b : Value} {Q : Value → Shared → Prop} (hh : A.handled = none) (D : ZipApart z TI TO i1 i2 l1 l2)
    (hz : ZSt s.heap z TI TO) (hTI : IsPair s.heap TI (.ref i1) (.ref i2)) (hTO : IsPair s.heap TO a b)
    (h1 : s.heap.IsListIter i1 l1 k1) (h2 : s.heap.IsListIter i2 l2 k2) (hl1 : s.heap.IsList l1 xs) (hl2 : s.heap.IsList l2 ys) (hend : xs[k1]? = none ∨ ys[k2]? = none)
    (hE : ∀ h' e, (∀ c o, c ≠ z → c ≠ TO → c ≠ i1 → c ≠ i2 → s.heap.get? c = some o → h'.get? c = some o) → (∃ o, h'.get? e = some o ∧ o.cls = .type "StopIteration") → E (.ref e) { s with heap := h' }) : wpAny (model prog w) A (Builtin.SmallTypes.nextOf (.ref z)) Q E s := by
  unfold Builtin.SmallTypes.nextOf
  exact wpAny_bind (wpAny_callSpecial?_slot (name := Str.ofString "__next__") (zst_type hz) F.slot_zip_next (wpAny_call_entry F.slot_zip_next (zst_type hz) F.entry_zip_next
    (zip_end hh D hz hTI hTO h1 h2 hl1 hl2 hend hE) (F.args_zip_next_1 _)))
/-- the next pair of an enumerate over an iterator whose item is told by R -/
theorem enum_item {e it : Addr} {c : Int} {old : Value} {R : Value → Heap → Prop} {Q : Value → Shared → Prop} (he : IsEnum s.heap e it c old)
    (hin : ∀ (E : Value → Shared → Prop) (Q : Value → Shared → Prop), (∀ x h1, IsEnum h1 e it c old → R x h1 → Q x { s with heap := h1 }) → wpAny (model prog w) A (Builtin.SmallTypes.nextOf (.ref it)) Q E s)
    (hQ : ∀ x h1 h', R x h1 → IsEnumOut h' e it (c + 1) x h1.objs.size → h'.get? h1.objs.size = some { cls := .type "tuple", data := .seq #[.int c s.toks, x] } → h'.objs.size = h1.objs.size + 1 →
      (∀ b o, b ≠ e → h1.get? b = some o → h'.get? b = some o) → Q (.ref h1.objs.size) { s with heap := h', toks := s.toks + 1 }) :
    wpAny (model prog w) A (Builtin.«enumerate.__next__» ⟨[.ref e], []⟩) (fun fin s' => ∃ v, fin = .done (.ret v) ∧ Q v s') E s := by
  obtain ⟨hp, g, d, tk, os⟩ := s
  show wpAny _ _ (field (.ref e) 2 >>= _) _ _ _
  refine wpAny_bind (wpAny_field he rfl (x := .ref it) rfl ?_)
  refine wpAny_bind (hin _ _ fun x h1 he1 r => ?_)
  show wpAny _ _ (field (.ref e) 3 >>= _) _ _ ⟨h1, g, d, tk, os⟩
  refine wpAny_bind (wpAny_field he1 rfl (x := rawInt c) rfl ?_)
  show wpAny _ _ (field (.ref e) 4 >>= _) _ _ ⟨h1, g, d, tk, os⟩
  refine wpAny_bind (wpAny_field he1 rfl (x := .none) rfl ?_)
  show wpAny _ _ (mkInt c >>= _) _ _ ⟨h1, g, d, tk, os⟩
  refine wpAny_bind (wpAny_mkInt ?_)
  show wpAny _ _ (setField (.ref e) 3 (rawInt (c + 1)) >>= _) _ _ ⟨h1, g, d, tk + 1, os⟩
  refine wpAny_bind (wpAny_setField_rec he1 (by simp) fun g2 e2 s2 => ?_)
  replace s2 : Heap.SameBut e h1 g2 := s2
  replace e2 : IsEnum g2 e it (c + 1) old := e2
  show wpAny _ _ (setField (.ref e) 4 .none >>= _) _ _ ⟨g2, g, d, tk + 1, os⟩
  refine wpAny_bind (wpAny_setField_rec e2 (by simp) fun g3 e3 s3 => ?_)
  replace s3 : Heap.SameBut e g2 g3 := s3
  replace e3 : IsEnum g3 e it (c + 1) old := e3
  show wpAny _ _ (newTuple [.int c tk, x] >>= _) _ _ ⟨g3, g, d, tk + 1, os⟩
  refine wpAny_bind (wpAny_newTuple ?_)
  have sz : g3.objs.size = h1.objs.size := by rw [s3.1, s2.1]
  have e4 : IsEnum (g3.push { cls := .type "tuple", data := .seq #[.int c tk, x] }) e it (c + 1) old := Heap.get?_push_of_some _ e3
  have t4 : (g3.push { cls := .type "tuple", data := .seq #[.int c tk, x] }).get? g3.objs.size = some { cls := .type "tuple", data := .seq #[.int c tk, x] } := Heap.get?_push_size _ rfl
  have z4 : (g3.push { cls := .type "tuple", data := .seq #[.int c tk, x] }).objs.size = g3.objs.size + 1 := Heap.size_push ..
  have k4 : ∀ b o, b ≠ e → h1.get? b = some o → (g3.push { cls := .type "tuple", data := .seq #[.int c tk, x] }).get? b = some o := fun b o hb y => Heap.get?_push_of_some _ (s3.extBut b o hb (s2.extBut b o hb y))
  have el : e < h1.objs.size := Heap.lt_size he1
  rw [sz] at t4 z4 ⊢
  generalize g3.push { cls := .type "tuple", data := .seq #[.int c tk, x] } = g4 at e4 t4 z4 k4 ⊢
  show wpAny _ _ (Builtin.SmallTypes.ownedTupleIsFree (.ref e) >>= _) _ _ ⟨g4, g, d, tk + 1, os⟩
  refine wpAny_bind ?_
  unfold Builtin.SmallTypes.ownedTupleIsFree
  refine wpAny_bind (wpAny_field e4 rfl (x := .none) rfl (wpAny_pure ?_))
  simp only [if_true]
  refine wpAny_bind (wpAny_rule ?_)
  refine wpAny_bind (wpAny_field e4 rfl (x := old) rfl ?_)
  refine wpAny_bind (wpAny_setField_rec e4 (by simp) fun g5 e5 s5 => ?_)
  replace s5 : Heap.SameBut e g4 g5 := s5
  replace e5 : IsEnum g5 e it (c + 1) x := e5
  show wpAny _ _ (Builtin.SmallTypes.ownedTupleHandOut (.ref e) (.ref h1.objs.size) >>= _) _ _ ⟨g5, g, d, tk + 1, os⟩
  refine wpAny_bind ?_
  unfold Builtin.SmallTypes.ownedTupleHandOut
  refine wpAny_bind (wpAny_setField_rec e5 (by simp) fun g6 e6 s6 => ?_)
  replace s6 : Heap.SameBut e g5 g6 := s6
  replace e6 : IsEnumOut g6 e it (c + 1) x h1.objs.size := e6
  refine wpAny_setField_rec e6 (by simp) fun g7 e7 s7 => ?_
  replace s7 : Heap.SameBut e g6 g7 := s7
  replace e7 : IsEnumOut g7 e it (c + 1) x h1.objs.size := e7
  have up : ∀ b o, b ≠ e → g4.get? b = some o → g7.get? b = some o := fun b o hb y => s7.extBut b o hb (s6.extBut b o hb (s5.extBut b o hb y))
  refine wpAny_bind (wpAny_letGo (wpAny_pure ⟨_, rfl, hQ x h1 g7 r e7 (up _ _ (Nat.ne_of_gt el) t4) ?_ fun b o hb y => up b o hb (k4 b o hb y)⟩))
  rw [s7.1, s6.1, s5.1, z4]
end
end EZ
namespace L2
open PySem PySem.Spec PyProof.Rows EZ
/-- the lists at a and b as they stand at each turn: a new pair of the number and a new pair of the items -/
def Itez (K : PySem.W.Frag) (a b : Addr) : It :=
  ⟨fun i H => ∃ (xs ys : List V) (x y : V), SqL K H a xs ∧ SqL K H b ys ∧ xs[i]? = some x ∧ ys[i]? = some y,
    fun i H v H' => ∃ (T T2 : Addr) (x y : V), v = .ref T ∧ H T2 = none ∧ upd H T2 (.tup [x, y]) T = none ∧ H' = upd (upd H T2 (.tup [x, y])) T (.tup [.int (i : Nat), .ref T2]) ∧ (∀ xs, SqL K H a xs → xs[i]? = some x) ∧ ∀ ys, SqL K H b ys → ys[i]? = some y,
    fun i H => ∃ xs ys : List V, SqL K H a xs ∧ SqL K H b ys ∧ (xs.length ≤ i ∨ ys.length ≤ i)⟩
def EzSt (e z TI TO i1 i2 a b : Addr) (i : Nat) (h : Heap) : Prop :=
  (∃ old, IsEnum h e z ((i : Nat) : Int) old) ∧ ZSt h z TI TO ∧ IsPair h TI (.ref i1) (.ref i2) ∧ (∃ x y, IsPair h TO x y) ∧ h.IsListIter i1 a i ∧ h.IsListIter i2 b i
theorem turn_ez {P : Program} {w : World} {K : PySem.W.Frag} {elts : List Expr} {kk : Nat} {tpos : Pos} {a b e z TI TO i1 i2 : Addr} (D : ZipApart z TI TO i1 i2 a b) (ez : e ≠ z) (eTI : e ≠ TI) (eTO : e ≠ TO) (e1 : e ≠ i1) (e2 : e ≠ i2) :
    Turn P w K (.Tuple elts kk tpos) (Itez K a b) [e, z, TI, TO, i1, i2] e (EzSt e z TI TO i1 i2 a b) where
  mem := by simp
  obj := fun i h st c hc => by
    obtain ⟨⟨old, he⟩, hz, hTI, ⟨x, y, hTO⟩, ⟨o1, q1, _, d1⟩, ⟨o2, q2, _, d2⟩⟩ := st
    have e' : c = e ∨ c = z ∨ c = TI ∨ c = TO ∨ c = i1 ∨ c = i2 := by simpa using hc
    rcases e' with q | q | q | q | q | q
    · rw [q]; exact ⟨_, he, fun v q => nomatch q⟩
    · rw [q]
      rcases hz with hz | ⟨T, f, hz⟩
      · exact ⟨_, hz, fun v q => nomatch q⟩
      · exact ⟨_, hz, fun v q => nomatch q⟩
    · rw [q]; exact ⟨_, hTI, fun v q => nomatch q⟩
    · rw [q]; exact ⟨_, hTO, fun v q => nomatch q⟩
    · rw [q]; exact ⟨o1, q1, fun v q => by rw [d1] at q; cases q⟩
    · rw [q]; exact ⟨o2, q2, fun v q => by rw [d2] at q; cases q⟩
  keep := fun i h h' st k => by
    obtain ⟨⟨old, he⟩, hz, hTI, ⟨x, y, hTO⟩, h1, h2⟩ := st
    refine ⟨⟨old, k e (by simp) _ he⟩, ?_, k TI (by simp) _ hTI, ⟨x, y, k TO (by simp) _ hTO⟩, h1.at fun o q => k i1 (by simp) o q, h2.at fun o q => k i2 (by simp) o q⟩
    rcases hz with hz | ⟨T, f, hz⟩
    · exact Or.inl (k z (by simp) _ hz)
    · exact Or.inr ⟨T, f, k z (by simp) _ hz⟩
  item := by
    intro X hP hw hK hc i pins s σ H E I hf st hg
    subst hP hw hK
    obtain ⟨⟨old, he⟩, hz, hTI, ⟨x0, y0, hTO⟩, h1, h2⟩ := st
    obtain ⟨xs, ys, x, y, hqx, hqy, hx, hy⟩ := hg
    obtain ⟨its, rv, p, _⟩ := I.list hqx
    obtain ⟨its2, rv2, p2, _⟩ := I.list hqy
    obtain ⟨u, hu, ru⟩ := rv.get hx
    obtain ⟨u2, hu2, ru2⟩ := rv2.get hy
    have hel : e < s.heap.objs.size := Heap.lt_size he
    unfold pyNext
    refine wpAny_bind (wpAny_attempt (wpAny_callSpecial?_slot (name := Str.ofString "__next__") ⟨_, he, rfl⟩ F.slot_enumerate_next (wpAny_call_entry F.slot_enumerate_next ⟨_, he, rfl⟩ F.entry_enumerate_next
      (enum_item (R := fun v h1 => v = .ref s.heap.objs.size ∧ ZOut s.heap h1 z TI TO i1 i2 a b i i u u2) he (fun E Q q => nextOf_zip_item D hz hTI hTO h1 h2 p.isList p2.isList (x := u) (y := u2) (by simpa using hu) (by simpa using hu2) fun h' o => q _ h' (o.2.2.2.2.2.2 e _ ez eTO e1 e2 he) ⟨rfl, o⟩) ?_) (F.args_enumerate_next_1 _))))
    rintro v g1 g2 ⟨rfl, ⟨T', f', z'⟩, ⟨a', b', TO'⟩, h1', h2', hT, hsz, hk⟩ ho hT2 hsz2 hk2
    refine wpAny_pure ⟨_, rfl, wpAny_letOwnedTupleGo_enum (s := { s with heap := g2, toks := s.toks + 1 }) ho fun g3 he' sb => ?_⟩
    have e3l : e < g1.objs.size := by rw [hsz]; exact Nat.lt_succ_of_lt hel
    have k23 : ∀ c o, c ≠ e → g1.get? c = some o → g3.get? c = some o := fun c o hc q => sb.extBut c o hc (hk2 c o hc q)
    have hT3 : g3.get? g1.objs.size = some { cls := .type "tuple", data := .seq #[.int i s.toks, .ref s.heap.objs.size] } := sb.extBut _ _ (Nat.ne_of_gt e3l) hT2
    have new1 : ObjOk X.prog X.w (upd H s.heap.objs.size (.tup [x, y])) g1 s.heap.objs.size (.tup [x, y]) :=
      ⟨by show 2 ≤ sizeLine; decide, [u, u2], .cons ru (.cons ru2 .nil), ⟨_, hT, rfl, _, rfl⟩⟩
    have I1 : Inv X pins σ (upd H s.heap.objs.size (.tup [x, y])) { s with heap := g1 } :=
      I.turnedNew (t' := s.toks) (ch := [z, TO, i1, i2]) (fun c o hb q => hk c o (fun q' => hb (by simp [q'])) (fun q' => hb (by simp [q'])) (fun q' => hb (by simp [q'])) (fun q' => hb (by simp [q'])) q)
        (fun c hc => hf c (by simp at hc ⊢; rcases hc with q | q | q | q <;> simp [q])) (Nat.le_refl _) new1
    have new2 : ObjOk X.prog X.w (upd (upd H s.heap.objs.size (.tup [x, y])) g1.objs.size (.tup [.int (i : Nat), .ref s.heap.objs.size])) g3 g1.objs.size (.tup [.int (i : Nat), .ref s.heap.objs.size]) :=
      ⟨by show 2 ≤ sizeLine; decide, [.int i s.toks, .ref s.heap.objs.size], .cons ⟨_, rfl⟩ (.cons rfl .nil), ⟨_, hT3, rfl, _, rfl⟩⟩
    have fe : FpOk X pins (upd H s.heap.objs.size (.tup [x, y])) e := ⟨by rw [upd_ne (Nat.ne_of_lt hel)]; exact (hf e (by simp)).1, (hf e (by simp)).2⟩
    have I2 : Inv X pins σ (upd (upd H s.heap.objs.size (.tup [x, y])) g1.objs.size (.tup [.int (i : Nat), .ref s.heap.objs.size])) { s with heap := g3, toks := s.toks + 1 } :=
      I1.turnedNew (ch := [e]) (fun c o hb q => k23 c o (fun q' => hb (by simp [q'])) q) (fun c hc => by rw [List.mem_singleton.mp hc]; exact fe) (Nat.le_refl _) new2
    refine ⟨.ref g1.objs.size, _, I2, rfl, ⟨g1.objs.size, s.heap.objs.size, x, y, rfl, I.hok.fresh (Nat.le_refl _), I1.hok.fresh (Nat.le_refl _), rfl, fun l hl => by rw [I.list_inj hl hqx]; exact hx, fun l hl => by rw [I.list_inj hl hqy]; exact hy⟩,
      ⟨⟨.ref s.heap.objs.size, ?_⟩, Or.inr ⟨T', f', k23 _ _ (Ne.symm ez) z'⟩, k23 _ _ (Ne.symm eTI) (hk _ _ D.TIz D.TITO D.TIi1 D.TIi2 hTI), ⟨a', b', k23 _ _ (Ne.symm eTO) TO'⟩, h1'.at fun o q => k23 _ o (Ne.symm e1) q, h2'.at fun o q => k23 _ o (Ne.symm e2) q⟩, fun c hcm => ?_⟩
    · have ee : ((i + 1 : Nat) : Int) = (i : Int) + 1 := by omega
      rw [ee]; exact he'
    · have hlt : c < s.heap.objs.size := by
        have e' : c = e ∨ c = z ∨ c = TI ∨ c = TO ∨ c = i1 ∨ c = i2 := by simpa using hcm
        rcases e' with q | q | q | q | q | q
        · rw [q]; exact hel
        · rw [q]
          rcases hz with hz | ⟨T, f, hz⟩
          · exact Heap.lt_size hz
          · exact Heap.lt_size hz
        · rw [q]; exact Heap.lt_size hTI
        · rw [q]; exact Heap.lt_size hTO
        · rw [q]; obtain ⟨_, q1, _⟩ := h1; exact Heap.lt_size q1
        · rw [q]; obtain ⟨_, q2, _⟩ := h2; exact Heap.lt_size q2
      rw [upd_ne (Nat.ne_of_lt (show c < g1.objs.size by rw [hsz]; exact Nat.lt_succ_of_lt hlt)), upd_ne (Nat.ne_of_lt hlt)]
      exact (hf c hcm).1
  done := by
    intro X hP hw hK hc i pins s σ H E I hf st hg
    subst hP hw hK
    obtain ⟨⟨old, he⟩, hz, hTI, ⟨x0, y0, hTO⟩, h1, h2⟩ := st
    obtain ⟨xs, ys, hqx, hqy, hend⟩ := hg
    obtain ⟨its, rv, p, _⟩ := I.list hqx
    obtain ⟨its2, rv2, p2, _⟩ := I.list hqy
    have l1 := rv.length
    have l2 := rv2.length
    have hh : its.toArray[i]? = none ∨ its2.toArray[i]? = none := by
      rcases hend with q | q
      · exact .inl (by simp; omega)
      · exact .inr (by simp; omega)
    unfold pyNext
    refine wpAny_bind (wpAny_attempt (wpAny_callSpecial?_slot (name := Str.ofString "__next__") ⟨_, he, rfl⟩ F.slot_enumerate_next (wpAny_call_entry F.slot_enumerate_next ⟨_, he, rfl⟩ F.entry_enumerate_next ?_ (F.args_enumerate_next_1 _))))
    show wpAny _ _ (field (.ref e) 2 >>= _) _ _ _
    refine wpAny_bind (wpAny_field he rfl (x := .ref z) rfl ?_)
    refine wpAny_bind (nextOf_zip_end (I.ok.hd hc) D hz hTI hTO h1 h2 p.isList p2.isList hh fun h' ex hk hx' => ?_)
    obtain ⟨o, ho, hcl⟩ := hx'
    refine wpAny_bind (wpAny_isInstance (T := "StopIteration") (b := true) ⟨o, ho, hcl⟩ isSubtype_stop ?_)
    exact wpAny_pure ⟨rfl, I.turnedL (t' := s.toks) (ch := [z, TO, i1, i2]) (fun c o hb q => hk c o (fun q' => hb (by simp [q'])) (fun q' => hb (by simp [q'])) (fun q' => hb (by simp [q'])) (fun q' => hb (by simp [q'])) q)
      (fun c hc => hf c (by simp at hc ⊢; rcases hc with q | q | q | q <;> simp [q]))⟩
  self := fun A i s Q E st h => let ⟨⟨_, he⟩, _⟩ := st; wpAny_pyIter_enum he h
end L2
namespace L2
open PySem PySem.Spec PyProof.Rows EZ
set_option maxHeartbeats 1000000 in
theorem meets_enum_zip (z TI TO : Addr) :
    Meets (Builtin.«enumerate.__new__» ⟨[.type "enumerate", .ref z], []⟩) (fun _ R s => IsZip s.heap z TI TO .none ∧
      R (.ok (.ret (.ref s.heap.objs.size))) { s with heap := s.heap.push { cls := .type "enumerate", data := .fields #[.none, .bool false, .ref z, rawInt 0, .none, .none] } }) :=
  .of_wp fun prog w A R s h => by
    obtain ⟨hp, g, d, tk, os⟩ := s
    obtain ⟨hz, h⟩ := h
    have hsub := sub_enumerate
    have hz' : IsZip (Shared.heap ⟨hp, g, d, tk, os⟩) z TI TO .none := hz
    wp_walk
    refine wpAny_stack_any fun st => wpAny_pure ?_
    split
    · rename_i c _ _ _ _ _
      cases (c == Value.type "enumerate")
      · wp_walk using wpAny_pyIter_zip hz'
        exact ⟨_, rfl, h⟩
      · wp_walk using wpAny_pyIter_zip hz'
        exact ⟨_, rfl, h⟩
    · wp_walk using wpAny_pyIter_zip hz'
      exact ⟨_, rfl, h⟩
theorem call_enum_zip {prog : Program} {w : World} {A : Around} {E : Value → Shared → Prop} {s : Shared} {z TI TO : Addr} {Q : Value → Shared → Prop} (hz : IsZip s.heap z TI TO .none)
    (h : ∀ h', IsEnum h' s.heap.objs.size z 0 .none → (∀ b o, s.heap.get? b = some o → h'.get? b = some o) → Q (.ref s.heap.objs.size) { s with heap := h' }) :
    wpAny (model prog w) A (call (.type "enumerate") [.ref z]) Q E s := by
  refine callType_new F.called_enumerate (by decide) (F.typeCall_enumerate_1 _) (F.newCall_enumerate_1 _) (fun obj => F.args_object_init_2 obj _) F.entry_enumerate_new (meets_enum_zip z TI TO) ⟨hz, ?_⟩
  have he : IsEnum (s.heap.push { cls := .type "enumerate", data := .fields #[.none, .bool false, .ref z, rawInt 0, .none, .none] }) s.heap.objs.size z 0 .none := Heap.get?_push_size _ rfl
  exact ⟨⟨_, he, rfl⟩, h _ he fun b o x => Heap.get?_push_of_some _ x⟩
def iEZ (K : PySem.W.Frag) (ta : TA) : TI := fun σ H R => ta σ H fun vs H1 => ∃ a b xs ys, vs = [.ref a, .ref b] ∧ SqL K H1 a xs ∧ SqL K H1 b ys ∧ R (Itez K a b) H1
theorem pi_ez {X : Cx} {e e2 : Expr} {ta : TA} {p p2 pos pos2 tpos : Pos} {elts : List Expr} {kk : Nat} (hg : Gl X "enumerate") (hm : X.mg "enumerate" = none) (hg2 : Gl X "zip") (hm2 : X.mg "zip" = none) (ha : PA X [e, e2] ta)
    (he : starEach [.Call (.Name "zip" p2) [e, e2] [] pos2] X.env = (false, eval (.Call (.Name "zip" p2) [e, e2] [] pos2) X.env) :: starEach [] X.env := by rfl)
    (hs : starEach [e, e2] X.env = (false, eval e X.env) :: starEach [e2] X.env := by rfl) (hpl : (backTo pos2 (starEach [e2] X.env)).any (·.1) = false := by rfl) :
    PI X (.Tuple elts kk tpos) (.Call (.Name "enumerate" p) [.Call (.Name "zip" p2) [e, e2] [] pos2] [] pos) (iEZ X.K ta) := by
  refine ⟨fun pins s σ H R I h => ?_⟩
  refine Call_ (ld_blt I hg hm boot_enumerate (PyProof.Rows.callWith_type1 ?_ he rfl))
  rw [he]
  show wpAny _ _ (spliced ((false, eval (.Call (.Name "zip" p2) [e, e2] [] pos2) X.env) :: backTo pos (starEach [] X.env))) _ _ s
  refine Calls.spliced_cons ?_
  refine Call_ (ld_blt I hg2 hm2 PyProof.Rows.boot_zip (PyProof.Rows.callWith_type1 (thn (ha.run pos2 pins s σ H _ I h) fun us s1 ⟨vs, H1, I1, r1, q1⟩ => ?_) hs hpl))
  obtain ⟨a, b, xs, ys, ex, hqx, hqy, q⟩ := q1
  subst ex
  cases r1 with
  | cons r rr =>
    cases rr with
    | cons r' rr =>
      cases rr
      cases r
      cases r'
      obtain ⟨its, rv, p1, _⟩ := I1.list hqx
      obtain ⟨its2, rv2, p2', _⟩ := I1.list hqy
      refine call_zip_2 p1.isList p2'.isList fun h' hz hTI hTO h1 h2 hsz hk => ?_
      refine Calls.spliced_nil ?_
      refine call_enum_zip (s := { s1 with heap := h' }) hz fun h'' hen hk2 => wpAny_pyIter_enum hen ?_
      have I2 : Inv X pins σ H1 { s1 with heap := h'' } := I1.kept (t' := s1.toks) fun b o q => hk2 b o (hk b o q)
      have ee : h'.objs.size = s1.heap.objs.size + 5 := hsz
      have hne : ∀ j, j < 5 → h'.objs.size ≠ s1.heap.objs.size + j := fun j hj z => by
        have z' : (h'.objs.size : Nat) = s1.heap.objs.size + j := z
        omega
      refine ⟨h'.objs.size, [h'.objs.size, s1.heap.objs.size + 4, s1.heap.objs.size + 2, s1.heap.objs.size + 3, s1.heap.objs.size, s1.heap.objs.size + 1], _, _, H1, rfl, I2, turn_ez (PySem.W.ktu_apart s1.heap.objs.size a b p1.lt p2'.lt) (hne 4 (by omega)) (hne 2 (by omega)) (hne 3 (by omega)) (hne 0 (by omega)) (hne 1 (by omega)),
        ⟨⟨_, hen⟩, Or.inl (hk2 _ _ hz), hk2 _ _ hTI, ⟨_, _, hk2 _ _ hTO⟩, h1.at fun o q => hk2 _ o q, h2.at fun o q => hk2 _ o q⟩, fun c hcm => ?_, q⟩
      have hle : s1.heap.objs.size ≤ c := by
        have e' : c = h'.objs.size ∨ c = s1.heap.objs.size + 4 ∨ c = s1.heap.objs.size + 2 ∨ c = s1.heap.objs.size + 3 ∨ c = s1.heap.objs.size ∨ c = s1.heap.objs.size + 1 := by simpa using hcm
        rcases e' with z | z | z | z | z | z
        · rw [z, ee]; exact Nat.le_add_right _ _
        · rw [z]; exact Nat.le_add_right _ _
        · rw [z]; exact Nat.le_add_right _ _
        · rw [z]; exact Nat.le_add_right _ _
        · rw [z]; exact Nat.le_refl _
        · rw [z]; exact Nat.le_add_right _ _
      exact I1.fpOk hle (I1.hok.fresh hle)
end L2
namespace DL
open PySem PySem.Spec PyProof.Rows L2
open Evl (Ex Ex.refl Ex.trans Ex.new)
theorem kEZ {X : Cx} {K : PySem.W.Frag} {e e2 : Expr} {ta : TA} {p p2 pos pos2 tpos : Pos} {elts : List Expr} {kk : Nat} (hg : Gl X "enumerate") (hm : X.mg "enumerate" = none) (hg2 : Gl X "zip") (hm2 : X.mg "zip" = none) (ha : PA X [e, e2] ta)
    (he : starEach [.Call (.Name "zip" p2) [e, e2] [] pos2] X.env = (false, eval (.Call (.Name "zip" p2) [e, e2] [] pos2) X.env) :: starEach [] X.env := by rfl)
    (hs : starEach [e, e2] X.env = (false, eval e X.env) :: starEach [e2] X.env := by rfl) (hpl : (backTo pos2 (starEach [e2] X.env)).any (·.1) = false := by rfl) (hk : X.K = K := by rfl) :
    PI X (.Tuple elts kk tpos) (.Call (.Name "enumerate" p) [.Call (.Name "zip" p2) [e, e2] [] pos2] [] pos) (iEZ K ta) := by subst hk; exact pi_ez hg hm hg2 hm2 ha he hs hpl
theorem ew_ez {c : Cn} {env : Sy} {os : List SO} {ta tb : TE} {as bs : List PyData} (ha : EvX false c env os ta (.list as)) (hb : EvX false c env os tb (.list bs)) : EvW c env os (iEZ c.K (tCons ta (tCons tb tNil))) (min as.length bs.length) (fun i => .i (.tuple [.int (i : Int), .tuple [as.getD i .none, bs.getD i .none]])) (fun _ => True) := fun ad σ H ok R q =>
  ha ad σ H ok _ fun va H1 e1 r1 => hb ad σ H1 (ok.ext e1) _ fun vb H2 e2 r2 => by
    rw [Nw_false] at r1 r2
    have r1 := r1.ext e2
    obtain ⟨a, rfl⟩ := dn_list_ref r1
    obtain ⟨b, rfl⟩ := dn_list_ref r2
    obtain ⟨xs, hx, _⟩ := sql_of_dn r1
    obtain ⟨ys, hy, _⟩ := sql_of_dn r2
    have ok2 := (ok.ext e1).ext e2
    have p1 := ok2.pin (v := .ref a) (s := .i (.list as)) r1
    have p2 := p1.pin (v := .ref b) (s := .i (.list bs)) r2
    refine ⟨a, b, xs, ys, rfl, hx, hy, q _ H2 ((.ref b, .i (.list bs)) :: (.ref a, .i (.list as)) :: c.fr) (e1.trans e2) p2 (fun ad' env' os' σ' H' o => up_pin ok2 ad' env' os' σ' H' (up_pin p1 ad' env' os' σ' H' o)) ⟨fun i ad' env' os' σ' H' hi o _ => ?_, fun ad' env' os' σ' H' o _ => ?_, fun i ad' env' os' σ' H' x H'' hi o _ y => ?_⟩⟩
    all_goals
      have qa : Dn c.K (Nof c ad' os') H' (.ref a) (.list as) := o.frm _ (List.mem_cons_of_mem _ (List.mem_cons_self ..))
      have qb : Dn c.K (Nof c ad' os') H' (.ref b) (.list bs) := o.frm _ (List.mem_cons_self ..)
      obtain ⟨xs', hx', ax⟩ := sql_of_dn qa
      obtain ⟨ys', hy', ay⟩ := sql_of_dn qb
      have la := ax.length
      have lb := ay.length
    · have h1 : i < xs'.length := by omega
      have h2 : i < ys'.length := by omega
      exact ⟨xs', ys', xs'[i], ys'[i], hx', hy', List.getElem?_eq_getElem h1, List.getElem?_eq_getElem h2⟩
    · exact ⟨xs', ys', hx', hy', by omega⟩
    · obtain ⟨T, T2, x1, y1, rfl, hT2, hT, rfl, fx, fy⟩ := y
      obtain ⟨d1, g1, k1⟩ := ax.getV (fx xs' hx')
      obtain ⟨d2, g2, k2⟩ := ay.getV (fy ys' hy')
      have e1 : Ex H' (upd H' T2 (.tup [x1, y1])) := Ex.new hT2
      have e2 : Ex (upd H' T2 (.tup [x1, y1])) (upd (upd H' T2 (.tup [x1, y1])) T (.tup [.int (i : Nat), .ref T2])) := Ex.new hT
      refine ⟨e1.trans e2, ?_⟩
      show Dn _ _ _ _ _
      rw [List.getD_eq_getElem?_getD, List.getD_eq_getElem?_getD, g1, g2]
      have t2 : Dn c.K (Nof c ad' os') (upd H' T2 (.tup [x1, y1])) (.ref T2) (.tuple [d1, d2]) := .tup (SqT.of upd_same) (.cons (k1.ext e1) (.cons (k2.ext e1) .nil))
      exact .tup (SqT.of upd_same) (.cons (.int _) (.cons (t2.ext e2) .nil))
end DL
namespace L2
open PySem PySem.Spec PyProof.Rows
section
variable {X : Cx}
theorem ps_setDc {i : Nat} {y : Str} {py : Pos} {kx vx tg iter : Expr} {ifs : List Expr} {scope : Scope} {own : List (Str × Nat)} {pos spos : Pos} {wi : TI} {g : TG} {tt : TT} {tk tv : TE} (hc : X.calm = true) (hN : X.N.Nodup) (hy : X.N[i]? = some y) (hyl : X.env.scope.names.lookup y = some .local)
    (hsw : swapsWith (.DictComp kx vx [⟨tg, iter, ifs, 0⟩] scope pos) (some (.Name y py)) spos.line X.env = pure true) (hi : PI X tg iter wi) (ok : BlkOk X.N X.env.scope scope own)
    (hg : ∀ (s : Shared) (H : Hp) (C : Addr) (cl : List (Str × Addr)) (fp : List Addr), PG (X.blk s H scope (compEnvC scope cl C X.env) fp) tg g) (ht : ∀ (s : Shared) (H : Hp) (C : Addr) (cl : List (Str × Addr)) (fp : List Addr), PTs (X.blk s H scope (compEnvC scope cl C X.env) fp) ifs tt)
    (hk : ∀ (s : Shared) (H : Hp) (C : Addr) (cl : List (Str × Addr)) (fp : List Addr), PE (X.blk s H scope (compEnvC scope cl C X.env) fp) kx tk)
    (he : ∀ (s : Shared) (H : Hp) (C : Addr) (cl : List (Str × Addr)) (fp : List Addr), PE (X.blk s H scope (compEnvC scope cl C X.env) fp) vx tv) (hs : ∀ x, foldedSetIterable iter X.env x = pure x := by intro _; rfl) :
    PS X (.Assign [.Name y py] (.DictComp kx vx [⟨tg, iter, ifs, 0⟩] scope pos) spos) (tAsg (tDc wi g tt tk tv (own.map (·.2))) (gName i)) := by
  refine ⟨fun pins s σ H D I h => ?_⟩
  rw [exec_Assign_Name_used _ _ _ _ hsw]
  refine wpAny_bind (wpAny_standAt (wpAny_bind ?_))
  show wpAny _ X.A (do let _ ← comprehension (.DictComp kx vx [⟨tg, iter, ifs, 0⟩] scope pos) scope X.env (firstIterPos [⟨tg, iter, ifs, 0⟩] pos) newDict false (eval iter X.env) (some (assign (.Name y py) X.env))) _ _ s
  have h : tDc wi g tt tk tv (own.map (·.2)) σ H (fun x H1 => gName i x σ H1 D.nx) := h
  refine wpAny_bind (thn (dc_core (Qf := fun _ s' => SP X pins D .next s') hc hN I hi ok hg ht hk he hs h fun L C s' m H' I' q hn f => ?_) fun _ s' hq => wpAny_pure (wpAny_pure hq))
  show wpAny _ _ (assign (.Name y py) X.env (.ref L)) _ _ _
  refine wpAny_assign_Name (store_ok2 (v := V.ref L) I' hN hy (.inl hyl) rfl (fun s2 I2 ⟨a, sb, ha⟩ => ?_) (.inr hyl))
  obtain ⟨f0, f1, f2, f3, f4, f5⟩ := f
  have haC : C ≠ a := by
    rcases ha with z | z
    · rw [z]; exact f1
    · exact fun e => f4 y a z e.symm
  refine ⟨m, hn.sameBut sb haC, fun h3 sb3 => ?_⟩
  exact ⟨_, H', I2.turned (t' := s2.toks) (fun b o hb e => (sb3.2 b hb).trans e) f0 f1 f3 f4 f5, q⟩
theorem sw_trueD {kx vx : Expr} {gs : List Comprehension} {scope : Scope} {pos py : Pos} {y : Str} {l : Nat} {env : Env} (hk : env.scope.kind = .function) (hy : env.scope.names.lookup y = some .local) (hl : (py.line == pos.line) = true)
    (ha : (scope.names.any fun (n, k) => n == y && (k == .local || k == .cell)) = false) : swapsWith (.DictComp kx vx gs scope pos) (some (.Name y py)) l env = pure true := by
  have ky : env.kindOf y = some .local := hy
  have hb : env.blockKind = .function := by unfold Env.blockKind; rw [hk]; rfl
  unfold swapsWith
  simp only [hb, ky, ha, Expr.pos, hl]
  rfl
end
end L2

set_option Elab.async false
set_option linter.all false
set_option maxRecDepth 100000
set_option maxHeartbeats 2000000
/-! The data layer: instances of the program's classes. -/
namespace DL
open PySem PySem.Spec PyProof.Rows L2
open Evl (Ex Ex.refl Ex.trans Ex.new)
/-! ### reading -/
theorem paired_lookup {F : V → PyData → Prop} {f : Str} : ∀ {fs : List (Str × V)} {m : List (Str × PyData)}, Paired (fun (p : Str × V) (q : Str × PyData) => p.1 = q.1 ∧ F p.2 q.2) fs m → (fs.lookup f = none ∧ m.lookup f = none) ∨ ∃ v d, fs.lookup f = some v ∧ m.lookup f = some d ∧ F v d
  | _, _, .nil => Or.inl ⟨rfl, rfl⟩
  | (x, v) :: fs, (y, d) :: m, .cons r t => by
    obtain ⟨e, r⟩ := r
    have e : x = y := e
    subst e
    by_cases h : (f == x) = true
    · exact Or.inr ⟨v, d, by simp [List.lookup, h], by simp [List.lookup, h], r⟩
    · rw [Bool.not_eq_true] at h
      rcases paired_lookup (f := f) t with ⟨a, b⟩ | ⟨v', d', a, b, c⟩
      · exact Or.inl ⟨by simp [List.lookup, h, a], by simp [List.lookup, h, b]⟩
      · exact Or.inr ⟨v', d', by simp [List.lookup, h, a], by simp [List.lookup, h, b], c⟩
section
variable {w : Bool} {c : Cn} {env env' : Sy} {os os' : List SO} {te ta : TE} {t tk : TA} {d : PyData} {C : Addr} {m : List (Str × PyData)} {u : TS} {D : Ends}
theorem eb_var {i : Nat} (h : env[i]? = some (some (.ob C m))) : EvB c env os (tVar i) C m := fun ad σ H ok Q q => by
  obtain ⟨v, h1, h2⟩ := ok.val i _ h
  exact ⟨v, h1, q v H (Ex.refl H) h2⟩
theorem ex_fld {f : Str} (h : EvB c env os te C m) (kc : Cls c.K C) (kn : NoAttr c.K C f) (hf : m.lookup f = some d) : EvX w c env os (tFld c.K te f) d := EvX.weak fun ad σ H ok Q q =>
  h ad σ H ok _ fun v H1 e r => by
    obtain ⟨a, dx, fs, rfl, h1, h2, h3⟩ := r
    rcases paired_lookup (f := f) h3 with ⟨_, z⟩ | ⟨v', d', z1, z2, z3⟩
    · rw [hf] at z; cases z
    · rw [hf] at z2
      cases z2
      exact ⟨a, C, dx, fs, v', rfl, h1, kc, kn, z1, q v' H1 e (by rw [Nw_false]; exact z3)⟩
theorem gs_asgB {i : Nat} (h : EvB c env os te C m) (k : Go c (env.set i (some (.ob C m))) os u D) : Go c env os (tSeq (tAsg te (gName i)) u) D := fun ad σ H ok =>
  h ad σ H ok _ fun v H2 e r => k ad _ H2 ((ok.ext e).set r)
/-! ### methods that read -/
def spSD (K : PySem.W.Frag) (C : Addr) (R : List (Str × PyData) → List PyData → PyData → Prop) : Sp := fun vs H Q _ => ∃ (N : Addr → Prop) (v : V) (rest : List V) (m : List (Str × PyData)) (ds : List PyData) (d : PyData), vs = v :: rest ∧ (∀ a, N a → H a ≠ none) ∧ ObOk K N H v C m ∧ DnAll K N H rest ds ∧ R m ds d ∧ ∀ v H', Ex H H' → Dn K N H' v d → Q v H'
def spSF (K : PySem.W.Frag) (C : Addr) (R : List (Str × PyData) → List PyData → List PyData → Prop) : Sp := fun vs H Q _ => ∃ (N : Addr → Prop) (v : V) (rest : List V) (m : List (Str × PyData)) (ds rs : List PyData), vs = v :: rest ∧ (∀ a, N a → H a ≠ none) ∧ ObOk K N H v C m ∧ DnAll K N H rest ds ∧ R m ds rs ∧
  ∀ p H' ws, H p = none → Ex H H' → H' p = some (.lst ws) → DnAll K (fun a => N a ∨ a = p) H' ws rs → Q (.ref p) H'
theorem spSD_len {K : PySem.W.Frag} {R : List (Str × PyData) → List PyData → PyData → Prop} {n : Nat} (hR : ∀ m ds d, R m ds d → ds.length = n) : ∀ vs H Q E, spSD K C R vs H Q E → vs.length = n + 1 := fun vs H Q E ⟨N, v, rest, m, ds, d, e, _, _, h, r, _⟩ => by rw [e, List.length_cons, h.length, hR m ds d r]
theorem spSF_len {K : PySem.W.Frag} {R : List (Str × PyData) → List PyData → List PyData → Prop} {n : Nat} (hR : ∀ m ds d, R m ds d → ds.length = n) : ∀ vs H Q E, spSF K C R vs H Q E → vs.length = n + 1 := fun vs H Q E ⟨N, v, rest, m, ds, d, e, _, _, h, r, _⟩ => by rw [e, List.length_cons, h.length, hR m ds d r]
theorem ob_lookup {K : PySem.W.Frag} {N : Addr → Prop} {H : Hp} {v : V} {x : Str} (hx : m.lookup x = none) (h : ObOk K N H v C m) : ∃ a dx fs, v = .ref a ∧ H a = some (.ins C dx fs) ∧ fs.lookup x = none := by
  obtain ⟨a, dx, fs, rfl, h1, h2, h3⟩ := h
  refine ⟨a, dx, fs, rfl, h1, ?_⟩
  rcases paired_lookup (f := x) h3 with ⟨z, _⟩ | ⟨_, _, _, z, _⟩
  · exact z
  · rw [hx] at z; cases z
theorem ex_meth {R : List (Str × PyData) → List PyData → PyData → Prop} {E : XK} {x : Str} {ds : List PyData} (h : EvB c env os te C m) (hx : m.lookup x = none) (ha : EvA false c env os t ds) (hR : R m ds d) : EvX w c env os (tMeth C x (spSD c.K C R) [] E te t) d := EvX.weak fun ad σ H ok Q q =>
  h ad σ H ok _ fun v H1 e1 r1 => by
    obtain ⟨a, dx, fs, rfl, h1, h2⟩ := ob_lookup hx r1
    refine ⟨a, dx, fs, rfl, h1, h2, ha ad σ H1 (ok.ext e1) _ fun vs H2 e2 r2 => ?_⟩
    rw [List.append_nil]
    rw [Nw_false] at r2
    exact ⟨Nof c ad os, _, _, m, ds, d, rfl, fun b z => ((ok.ext e1).ext e2).nof z, r1.ext e2, r2, hR, fun v' H' e' r' => q v' H' ((e1.trans e2).trans e') (by rw [Nw_false]; exact r')⟩
theorem ef_meth {R : List (Str × PyData) → List PyData → List PyData → Prop} {E : XK} {x : Str} {ds rs : List PyData} (h : EvB c env os te C m) (hx : m.lookup x = none) (ha : EvA false c env os t ds) (hR : R m ds rs) : EvF c env os (tMeth C x (spSF c.K C R) [] E te t) (.lst (rs.map SV.i)) := fun ad σ H ok Q q =>
  h ad σ H ok _ fun v H1 e1 r1 => by
    obtain ⟨a, dx, fs, rfl, h1, h2⟩ := ob_lookup hx r1
    refine ⟨a, dx, fs, rfl, h1, h2, ha ad σ H1 (ok.ext e1) _ fun vs H2 e2 r2 => ?_⟩
    rw [List.append_nil]
    rw [Nw_false] at r2
    exact ⟨Nof c ad os, _, _, m, ds, rs, rfl, fun b z => ((ok.ext e1).ext e2).nof z, r1.ext e2, r2, hR, fun p H' ws hp e' g1 g2 => q p H' (e1.free (e2.free hp)) ((e1.trans e2).trans e') ⟨ws, g1, dn_paired g2⟩⟩
/-! ### the start of a method's body -/
def envS (n : Nat) (ss : List SV) : Sy := ss.map some ++ List.replicate (n - ss.length) none
theorem ok_startS {K : PySem.W.Frag} {H : Hp} {N : Addr → Prop} {vs : List V} {ss : List SV} {Nm : List Str} (hN : ∀ a, N a → H a ≠ none) (h : Paired (SvOk K N (fun _ => 0) 0 H) vs ss) : Ok ⟨K, H, N, fun _ => False, [], 0⟩ (fun _ => 0) (envS Nm.length ss) [] (L2.start Nm vs) H where
  len := by unfold L2.start envS; simp [Paired.length h]
  ex := fun a o e _ => e
  n0 := hN
  val := fun i s e => by
    unfold envS at e
    by_cases hi : i < ss.length
    · rw [List.getElem?_append_left (by simpa using hi), List.getElem?_map] at e
      cases hd : ss[i]? with
      | none => rw [hd] at e; cases e
      | some d =>
        rw [hd] at e
        cases e
        obtain ⟨v, h1, h2⟩ := paired_get h hd
        refine ⟨v, ?_, h2.sub fun a z => z.elim id fun ⟨k, ⟨o, y, _⟩, _⟩ => by simp at y⟩
        unfold L2.start
        rw [List.getElem?_append_left (by rw [List.length_map, Paired.length h]; exact hi), List.getElem?_map, h1]
        rfl
    · rw [List.getElem?_append_right (by simpa using hi)] at e
      rw [List.getElem?_replicate] at e
      split at e <;> cases e
  obj := fun k o e _ => by simp at e
  inj := fun k j ⟨o, e, _⟩ => by simp at e
  nn := fun k ⟨o, e, _⟩ => by simp at e
  frm := fun p hp => by cases hp
  low := Nat.le_refl _
theorem run_spSD {K : PySem.W.Frag} {R : List (Str × PyData) → List PyData → PyData → Prop} {vs : List V} {H : Hp} {Q : VK} {E : XK} {Nm : List Str} {t : TS} (h : spSD K C R vs H Q E)
    (g : ∀ N m ds d, R m ds d → Ret ⟨K, H, N, fun _ => False, [], 0⟩ d (De Q) → Go ⟨K, H, N, fun _ => False, [], 0⟩ (envS Nm.length (.ob C m :: ds.map SV.i)) [] t (De Q)) : t (De Q) (L2.start Nm vs) H := by
  obtain ⟨N, v, rest, m, ds, d, rfl, hN, hv, hr, hR, hq⟩ := h
  exact g N m ds d hR (fun v H2 e r => hq v H2 (fun a o z => e a o z fun y => y) r) _ _ _ (ok_startS hN (.cons hv (dn_paired hr)))
theorem run_spSF {K : PySem.W.Frag} {R : List (Str × PyData) → List PyData → List PyData → Prop} {vs : List V} {H : Hp} {Q : VK} {E : XK} {Nm : List Str} {t : TS} (h : spSF K C R vs H Q E)
    (g : ∀ N m ds rs, R m ds rs → RetF ⟨K, H, N, fun _ => False, [], 0⟩ rs (De Q) → Go ⟨K, H, N, fun _ => False, [], 0⟩ (envS Nm.length (.ob C m :: ds.map SV.i)) [] t (De Q)) : t (De Q) (L2.start Nm vs) H := by
  obtain ⟨N, v, rest, m, ds, d, rfl, hN, hv, hr, hR, hq⟩ := h
  exact g N m ds d hR (fun p H2 ws hp e h1 h2 => hq p H2 ws hp (fun a o z => e a o z fun y => y) h1 h2) _ _ _ (ok_startS hN (.cons hv (dn_paired hr)))
end
end DL
namespace DL
open PySem PySem.Spec PyProof.Rows L2
open Evl (Ex Ex.refl Ex.trans Ex.new)
/-! ### methods and constructors as promises -/
def MetP (P : Program) (w : World) (K : PySem.W.Frag) (mg : Str → Option Value) (base : Heap) (k : Nat) (C : Addr) (m : Str) (ps : List Str) (sp : Sp) : Prop :=
  ∃ f fd, Cls K C ∧ Meth K C m f ∧ FnOk P w K mg base CX0 k f fd ps sp ∧ Binds K fd ps []
def MakP (P : Program) (w : World) (K : PySem.W.Frag) (mg : Str → Option Value) (base : Heap) (k : Nat) (x : Str) (C : Addr) (ps : List Str) (sp : Sp) (fs : List CForm) : Prop :=
  ∃ f fd, Mk K C f ∧ FnOk P w K mg base CX0 k f fd ps sp ∧ (∀ F ∈ fs, FormOk K fd ps F) ∧ mg x = some (.ref C)
abbrev FnM (K : PySem.W.Frag) (x qual : Str) (st : Stmt) (kws : List (Str × V)) (f : Addr) (fd : FuncData) : Prop := FunD K x qual (defArgs st) (defBody st) (defScope st) [] kws f fd
section
variable {P : Program} {w : World} {K : PySem.W.Frag} {mg : Str → Option Value} {base : Heap}
theorem met_mk {x qual : Str} {st : Stmt} {f : Addr} {fd : FuncData} {N ps : List Str} {k : Nat} {sp : Sp} {C : Addr} (F : FnM K x qual st [] f fd) (S : FnScope N ps (defScope st)) (c : Cls K C) (me : Meth K C x f) (len : ∀ vs H Q E, sp vs H Q E → vs.length = ps.length)
    (hb : ∀ (kV doc pm : Value) (an : Option Addr) (cdv ct : Value) (us : List Value), us.length = ps.length → bindArgs (PySem.W.fnOf x qual (defArgs st) (defBody st) (defScope st) .none kV doc pm an cdv ct) ⟨us, []⟩ = pure (ps.zip us))
    (hbody : ∀ (cdv : Value) (A : Around) (outer : List Env) (s : Shared) (H : Hp) (vs : List V) (Q : VK) (E : XK), Room k (A.deeper (envOfC qual (defScope st) s.heap.objs.size f cdv)) → sp vs H Q E →
      ∃ t, PSs (cxOf CX0 P w K mg base N qual (defScope st) f cdv A outer s H E).nox (defBody st) t ∧ t (De Q) (L2.start N vs) H) : MetP P w K mg base (k + 1) C x ps sp :=
  ⟨f, fd, c, me, F.ok S len fun cdv A outer s H vs Q E hr h => let ⟨t, a, b⟩ := hbody cdv A outer s H vs Q E hr h; ⟨t, a.nox, b⟩, F.bindsN hb⟩
theorem mak_mk {x y qual : Str} {st : Stmt} {f : Addr} {fd : FuncData} {N ps : List Str} {k : Nat} {sp : Sp} {C : Addr} {kws : List (Str × V)} {fs : List CForm} (F : FnM K y qual st kws f fd) (S : FnScope N ps (defScope st)) (M : Mk K C f) (g : mg x = some (.ref C)) (len : ∀ vs H Q E, sp vs H Q E → vs.length = ps.length)
    (hf : ∀ F ∈ fs, FormOk K fd ps F)
    (hbody : ∀ (cdv : Value) (A : Around) (outer : List Env) (s : Shared) (H : Hp) (vs : List V) (Q : VK) (E : XK), Room k (A.deeper (envOfC qual (defScope st) s.heap.objs.size f cdv)) → sp vs H Q E →
      ∃ t, PSs (cxOf CX0 P w K mg base N qual (defScope st) f cdv A outer s H E).nox (defBody st) t ∧ t (De Q) (L2.start N vs) H) : MakP P w K mg base (k + 1) x C ps sp fs :=
  ⟨f, fd, M, F.ok S len fun cdv A outer s H vs Q E hr h => let ⟨t, a, b⟩ := hbody cdv A outer s H vs Q E hr h; ⟨t, a.nox, b⟩, hf, g⟩
end
section
variable {X : Cx} {k j : Nat} {ps : List Str} {sp : Sp} {x m : Str} {p pos apos : Pos} {e o : Expr} {es : List Expr} {t tk : TA} {ta : TE} {C : Addr} {kws : List Keyword} {fs : List CForm} {n : Nat} {ks : List Str} {ms : List (Str × V)}
theorem pe_metP {pl : Sem Bool} (h : MetP X.prog X.w X.K X.mg X.base k C m ps sp) (hr : Room j X.A) (hj : k ≤ j) (hx : Passes CX0 X E0) (he : PE X o ta) (ha : PA X (e :: es) t)
    (hst : starEach (e :: es) X.env = (false, eval e X.env) :: starEach es X.env := by rfl) (hpl : (backTo pos (starEach es X.env)).any (·.1) = false := by rfl)
    (ht : eval (.Call (.Attribute o m apos) (e :: es) [] pos) X.env = (do
      let ov ← eval o X.env
      standAt apos.atName
      let (f, first) ← holding [ov] (getMethod ov m pl)
      callWith pos f first (backTo pos (starEach (e :: es) X.env)) (backToKw pos (keywordEach [] X.env))) := by rfl) :
    PE X (.Call (.Attribute o m apos) (e :: es) [] pos) (tMeth C m sp [] E0 ta t) := by
  obtain ⟨f, fd, c, me, G, b⟩ := h
  exact pe_meth (pl := pl) he c me G (hr.mono hj) b .nil hx ha hst hpl ht
theorem pe_metP0 {pl : Sem Bool} (h : MetP X.prog X.w X.K X.mg X.base k C m ps sp) (hr : Room j X.A) (hj : k ≤ j) (hx : Passes CX0 X E0) (he : PE X o ta)
    (ht : eval (.Call (.Attribute o m apos) [] [] pos) X.env = (do
      let ov ← eval o X.env
      standAt apos.atName
      let (f, first) ← holding [ov] (getMethod ov m pl)
      callWith pos f first (backTo pos (starEach [] X.env)) (backToKw pos (keywordEach [] X.env))) := by rfl) :
    PE X (.Call (.Attribute o m apos) [] [] pos) (tMeth C m sp [] E0 ta tNil) := by
  obtain ⟨f, fd, c, me, G, b⟩ := h
  exact pe_meth0 (pl := pl) he c me G (hr.mono hj) b .nil hx ht
theorem pe_makP (h : MakP X.prog X.w X.K X.mg X.base k x C ps sp fs) (hF : (n + 1, ks, ms) ∈ fs) (hr : Room j X.A) (hj : k + 1 ≤ j) (hg : Gl X x) (hx : Passes CX0 X E0) (ha : PA X (e :: es) t) (hkw : PK X kws tk)
    (hall : (backToKw pos (keywordEach kws X.env)).all (·.1.isSome) = true := by rfl) (hks : (backToKw pos (keywordEach kws X.env)).filterMap (·.1) = ks := by rfl) (hdb : (x == ("__debug__" : Str)) = false := by decide)
    (he : starEach (e :: es) X.env = (false, eval e X.env) :: starEach es X.env := by rfl) (hpl : ((backTo pos (starEach (e :: es) X.env)).any (·.1) || (backToKw pos (keywordEach kws X.env)).any (·.1.isNone)) = false := by rfl) :
    PE X (.Call (.Name x p) (e :: es) kws pos) (tMakeK C n ks.length sp (fun vs zs => vs ++ (zs ++ ms.map (·.2))) E0 t tk) := by
  obtain ⟨f, fd, M, G, b, g⟩ := h
  obtain ⟨ds, hb⟩ := b _ hF
  exact pe_makeK M G (hr.mono hj) hg g hb hx ha hkw hall hks hdb he hpl
end
/-! ### making -/
def spO (K : PySem.W.Frag) (C : Addr) (R : List PyData → List (Str × PyData) → Prop) : Sp := fun vs H Q _ => ∃ (N : Addr → Prop) (x dx : Addr) (rest : List V) (ds : List PyData) (m : List (Str × PyData)), vs = .ref x :: rest ∧ H x = some (.ins C dx []) ∧ (∀ a, N a → H a ≠ none) ∧ ¬ N x ∧ DnAll K (fun a => N a ∨ a = x) H rest ds ∧ R ds m ∧
  ∀ H', (∀ a o, H a = some o → a ≠ x → H' a = some o) → ObOk K N H' (.ref x) C m → Q .non H'
theorem spO_len {K : PySem.W.Frag} {C : Addr} {R : List PyData → List (Str × PyData) → Prop} {n : Nat} (hR : ∀ ds m, R ds m → ds.length = n) : ∀ vs H Q E, spO K C R vs H Q E → vs.length = n + 1 := fun vs H Q E ⟨N, x, dx, rest, ds, m, e, _, _, _, h, r, _⟩ => by rw [e, List.length_cons, h.length, hR ds m r]
section
variable {w : Bool} {c : Cn} {env env' : Sy} {os os' : List SO} {te ta tv to : TE} {t tk : TA} {d : PyData} {C : Addr} {m : List (Str × PyData)} {u : TS} {D : Ends}
theorem eb_make {R : List PyData → List (Str × PyData) → Prop} {E : XK} {n k : Nat} {ds es : List PyData} (h : EvA false c env os t ds) (hk : EvA false c env os tk es) (l1 : ds.length = n) (l2 : es.length = k) (hR : R (ds ++ (es ++ [])) m) : EvB c env os (tMakeK C n k (spO c.K C R) (fun vs zs => vs ++ (zs ++ ([] : List V))) E t tk) C m := fun ad σ H ok Q q =>
  h ad σ H ok _ fun vs H1 e1 a1 => hk ad σ H1 (ok.ext e1) _ fun zs H2 e2 a2 => by
    rw [Nw_false] at a1 a2
    have ok2 := (ok.ext e1).ext e2
    refine ⟨a1.length.trans l1, a2.length.trans l2, fun x dx hx hdx hne => ?_⟩
    have e3 : Ex H2 (upd H2 dx (.own x)) := Ex.new hdx
    have hx3 : upd H2 dx (.own x) x = none := by rw [upd_ne (Ne.symm hne)]; exact hx
    have e4 : Ex (upd H2 dx (.own x)) (upd (upd H2 dx (.own x)) x (.ins C dx [])) := Ex.new hx3
    have hnx : ¬ Nof c ad os x := fun z => ok2.nof z hx
    refine ⟨Nof c ad os, x, dx, vs ++ (zs ++ []), _, m, rfl, upd_same, fun b z => (e3.trans e4).some (ok2.nof z), hnx, ?_, hR, fun H' e' r => ⟨rfl, ?_⟩⟩
    · exact ((DnAll.add hx3 (((a1.ext e2).append (a2.append .nil)).ext e3)).ext e4)
    · have ex2 : Ex H2 H' := fun a o z => e' a o ((e3.trans e4) a o z) (ne_of_none z hx)
      exact q _ H' ((e1.trans e2).trans ex2) r
/-! ### the body of __init__ -/
def putS (f : Str) (v : SV) : List (Str × SV) → List (Str × SV)
  | [] => [(f, v)]
  | (g, x) :: r => if g = f then (g, v) :: r else (g, x) :: putS f v r
theorem paired_put {F : V → SV → Prop} {f : Str} {v : V} {s : SV} (hv : F v s) : ∀ {fs : List (Str × V)} {m : List (Str × SV)}, Paired (fun (p : Str × V) (q : Str × SV) => p.1 = q.1 ∧ F p.2 q.2) fs m → Paired (fun (p : Str × V) (q : Str × SV) => p.1 = q.1 ∧ F p.2 q.2) (putF f v fs) (putS f s m)
  | _, _, .nil => .cons ⟨rfl, hv⟩ .nil
  | (x, a) :: fs, (y, b) :: m, .cons r t => by
    obtain ⟨e, r⟩ := r
    have e : x = y := e
    subst e
    unfold putF putS
    by_cases h : x = f
    · rw [if_pos h, if_pos h]; exact .cons ⟨rfl, hv⟩ t
    · rw [if_neg h, if_neg h]; exact .cons ⟨rfl, r⟩ (paired_put hv t)
theorem gs_setFld {k : Nat} {f : Str} {fs : List (Str × SV)} {s : SV} (h : EvS c env os tv s) (hl : EvR c env os to k) (hk : os[k]? = some (.ob C fs)) (kc : Cls c.K C) (kn : NoAttr c.K C f) (hz : fs.length < 1000) (g : Go c env (os.set k (.ob C (putS f s fs))) u D) : Go c env os (tSeq (sFld c.K to tv f) u) D := fun ad σ H ok =>
  h.run ok fun v H1 e1 r => hl.2 ad σ H1 (ok.ext e1) _ fun H2 e2 => by
    have ok2 := (ok.ext e1).ext e2
    obtain ⟨_, dx, vs, hvs, pv⟩ := ok2.obj k _ hk rfl
    have hN : Nof c ad os (ad k) := Or.inr ⟨k, ⟨_, hk, rfl⟩, rfl⟩
    refine ⟨ad k, C, dx, vs, rfl, hvs, kc, kn, by rw [Paired.length pv]; exact hz, g ad σ _ (ok2.mut hk rfl rfl ⟨dx, _, upd_same, ?_⟩)⟩
    exact paired_put ((r.ext e2).mut hvs rfl hN) (Paired.imp pv fun _ _ z => ⟨z.1, z.2.mut hvs rfl hN⟩)
def RetO (x : Addr) (C : Addr) (m : List (Str × PyData)) (c : Cn) (D : Ends) : Prop := ∀ ad env os σ H2, Ok c ad env os σ H2 → os[0]? = some (.ob C (m.map fun p => (p.1, SV.i p.2))) → D.nx σ H2
theorem g_endO {x : Addr} (hq : RetO x C m c D) (h0 : os[0]? = some (.ob C (m.map fun p => (p.1, SV.i p.2)))) : Go c env os tNext D := fun ad σ H ok => hq ad env os σ H ok h0
theorem paired_obd {K : PySem.W.Frag} {N : Addr → Prop} {ad : Nat → Addr} {n : Nat} {H : Hp} : ∀ {fs : List (Str × V)} {m : List (Str × PyData)}, Paired (fun (p : Str × V) (q : Str × SV) => p.1 = q.1 ∧ SvOk K N ad n H p.2 q.2) fs (m.map fun p => (p.1, SV.i p.2)) → Paired (fun (p : Str × V) (q : Str × PyData) => p.1 = q.1 ∧ Dn K N H p.2 q.2) fs m
  | _, [], h => by cases h; exact .nil
  | _, q :: m, h => by
    cases h with
    | cons a b => exact .cons a (paired_obd b)
theorem run_spO {K : PySem.W.Frag} {R : List PyData → List (Str × PyData) → Prop} {vs : List V} {H : Hp} {Q : VK} {E : XK} {Nm : List Str} {t : TS} (h : spO K C R vs H Q E)
    (g : ∀ N x ds m, R ds m → RetO x C m ⟨K, H, N, fun a => a = x, [(.ref x, .r 0)], 1⟩ (De Q) → Go ⟨K, H, N, fun a => a = x, [(.ref x, .r 0)], 1⟩ (envS Nm.length (.r 0 :: ds.map SV.i)) [.ob C []] t (De Q)) : t (De Q) (L2.start Nm vs) H := by
  obtain ⟨N, x, dx, rest, ds, m, rfl, hx, hN, hnx, hr, hR, hq⟩ := h
  have lv : ∀ k, Lv [SO.ob C []] k → k = 0 := fun k ⟨o, e, _⟩ => by
    match k, e with
    | 0, _ => rfl
  have hNo : ∀ a, Nof ⟨K, H, N, fun a => a = x, [(.ref x, .r 0)], 1⟩ (fun _ => x) [SO.ob C []] a → N a ∨ a = x := fun a h => by
    rcases h with h | ⟨k, _, e⟩
    · exact Or.inl h
    · exact Or.inr e
  refine g N x ds m hR (fun ad env os σ H2 ok h0 => ?_) (fun _ => x) _ _ ?_
  · have h1 := ok.frm _ (List.mem_cons_self ..)
    obtain ⟨e1, _⟩ := (show V.ref x = .ref (ad 0) ∧ _ from h1)
    obtain ⟨_, dx', ws, hws, pw⟩ := ok.obj 0 _ h0 rfl
    have ex : x = ad 0 := by cases e1; rfl
    rw [← ex] at hws
    refine hq H2 (fun a o z ne => ok.ex a o z ne) ⟨x, dx', ws, rfl, hws, hnx, Paired.imp (paired_obd pw) fun _ _ z => ⟨z.1, z.2.sub fun a y => Or.inl y⟩⟩
  · have hp : Paired (SvOk K (fun a => N a ∨ a = x) (fun _ => x) 1 H) (V.ref x :: rest) (SV.r 0 :: ds.map SV.i) := .cons ⟨rfl, Nat.lt_succ_self 0⟩ (dn_paired hr)
    refine ⟨?_, fun a o e _ => e, hN, fun i s e => ?_, fun k o e _ => ?_, fun k j a b _ => (lv k a).trans (lv j b).symm, fun k _ => hnx, fun p hp => ?_, Nat.le_refl _⟩
    · unfold L2.start envS; simp [hr.length]
    · unfold envS at e
      have hl := Paired.length hp
      by_cases hi : i < (SV.r 0 :: ds.map SV.i).length
      · rw [List.getElem?_append_left (by simpa using hi), List.getElem?_map] at e
        cases hd : (SV.r 0 :: ds.map SV.i)[i]? with
        | none => rw [hd] at e; cases e
        | some d =>
          rw [hd] at e
          cases e
          obtain ⟨v, h1, h2⟩ := paired_get hp hd
          refine ⟨v, ?_, h2.sub hNo⟩
          unfold L2.start
          rw [List.getElem?_append_left (by rw [List.length_map, hl]; exact hi), List.getElem?_map, h1]
          rfl
      · rw [List.getElem?_append_right (by simpa using hi), List.getElem?_replicate] at e
        split at e <;> cases e
    · match k, e with
      | 0, e =>
        cases e
        exact ⟨Or.inr rfl, dx, [], hx, .nil⟩
    · rw [List.mem_singleton.mp hp]
      exact ⟨rfl, Nat.lt_succ_self 0⟩
end
end DL
namespace DL
open PySem PySem.Spec PyProof.Rows L2
theorem kFld {X : Cx} {K : PySem.W.Frag} {o : Expr} {f : Str} {pos : Pos} {ta : TE} (ha : PE X o ta) (hb : attributeBase o f X.env (eval o X.env) = eval o X.env := by rfl) (hk : X.K = K := by rfl) : PE X (.Attribute o f pos) (tFld K ta f) := by subst hk; exact pe_fld ha hb
theorem kSetFld {X : Cx} {K : PySem.W.Frag} {o value : Expr} {f : Str} {pos pos' : Pos} {ta tv : TE} (ha : PE X o ta) (hv : PE X value tv) (hs : swapsWith value (some (.Attribute o f pos')) pos.line X.env = pure false := by rfl) (hk : X.K = K := by rfl) : PS X (.Assign [.Attribute o f pos'] value pos) (sFld K ta tv f) := by subst hk; exact ps_fld ha hv hs
end DL

set_option Elab.async false
set_option linter.all false
set_option maxRecDepth 100000
set_option maxHeartbeats 2000000
/-! The data layer: list(o) of an instance whose __iter__ gives iter(list); properties. -/
namespace DL
open PySem PySem.Spec PyProof.Rows L2
open Evl (Ex Ex.refl Ex.trans Ex.new)
section
variable {prog : Program} {w : World} {A : Around} {E : Value → Shared → Prop} {s : Shared} {it l : Addr} {i : Nat} {items : Array Value}
theorem next_item2 {x : Value} {Q : Option Value → Shared → Prop} (ho : s.heap.get? it = some (GNX.itObj l i)) (hl : s.heap.IsList l items) (hx : items[i]? = some x)
    (hQ : ∀ h', h'.get? it = some (GNX.itObj l (i + 1)) → Heap.SameBut it s.heap h' → Q (some x) { s with heap := h' }) : wpAny (model prog w) A (pyNext (.ref it)) Q E s := by
  have hT : s.TypeIs (.ref it) "list_iterator" := ⟨_, ho, rfl⟩
  unfold pyNext
  refine wpAny_bind (wpAny_attempt (wpAny_callSpecial?_slot (name := Str.ofString "__next__") hT slot_listiter_next (wpAny_call_entry slot_listiter_next hT entry_listiter_next ?_ (args_listiter_next _))))
  refine wpAny_mono (GNX.next_item (A := A.in1) (Q := fun v s' => v = x ∧ Q (some x) s') ho hl hx fun h' e sb => ⟨rfl, hQ h' e sb⟩) (fun fin s' hf => ?_) fun _ _ z => z
  obtain ⟨v, rfl, rfl, q⟩ := hf
  exact ⟨_, rfl, wpAny_pure q⟩
theorem next_end2 {Q : Option Value → Shared → Prop} (hh : A.handled = none) (ho : s.heap.get? it = some (GNX.itObj l i)) (hl : s.heap.IsList l items) (hx : items[i]? = none)
    (hQ : ∀ h1 h', h1.get? it = some (GNX.itEnd i) → Heap.SameBut it s.heap h1 → (∀ b o, h1.get? b = some o → h'.get? b = some o) → Q none { s with heap := h' }) : wpAny (model prog w) A (pyNext (.ref it)) Q E s := by
  have hT : s.TypeIs (.ref it) "list_iterator" := ⟨_, ho, rfl⟩
  unfold pyNext
  refine wpAny_bind (wpAny_attempt (wpAny_callSpecial?_slot (name := Str.ofString "__next__") hT slot_listiter_next (wpAny_call_entry slot_listiter_next hT entry_listiter_next ?_ (args_listiter_next _))))
  refine wpAny_mono (GNX.next_end (A := A) (Q := fun v s' => False) hh ho hl hx fun h1 h' e vs e1 sb k ne he hv => ?_) (fun fin s' hf => ?_) fun _ _ z => z
  · refine wpAny_bind (wpAny_isInstance (T := "StopIteration") (b := true) ⟨_, he, rfl⟩ isSubtype_stop ?_)
    exact wpAny_pure (hQ h1 h' e1 sb k)
  · obtain ⟨v, _, z⟩ := hf
    exact z.elim
end
theorem sql_step {K : PySem.W.Frag} {H1 : Hp} {l q it : Addr} {ys acc : List V} {o : HO} (h : SqL K H1 l ys) (hq : H1 q = some (.lst [])) (hit : H1 it = some (ItO l it 0)) (hacc : acc = [] ∨ ys ≠ []) : SqL K (upd (upd H1 q (.lst acc)) it o) l ys := by
  rcases h with h | h
  · have nit : l ≠ it := fun z => by
      subst z
      rcases h with h | ⟨u, h⟩ <;> rw [hit] at h <;> cases h
    refine Or.inl ?_
    by_cases e : l = q
    · subst e
      rcases h with h | ⟨u, h⟩
      · rw [hq] at h
        cases h
        rcases hacc with e | e
        · subst e
          exact Or.inl (by rw [upd_ne nit, upd_same])
        · exact absurd rfl e
      · rw [hq] at h; cases h
    · rcases h with h | ⟨u, h⟩
      · exact Or.inl (by rw [upd_ne nit, upd_ne e]; exact h)
      · exact Or.inr ⟨u, by rw [upd_ne nit, upd_ne e]; exact h⟩
  · exact Or.inr h
section
variable {X : Cx} {pins : List (Addr × Obj)} {σ : L2.St} {H : Hp} {s : Shared} {A1 : Around}
theorem itr_loop {H1 : Hp} {l q it : Addr} {ys : List V} {Rs : Result → Shared → Prop} (hA : A1.in1.handled = none) (hq : H1 q = some (.lst [])) (hit : H1 it = some (ItO l it 0)) (hl : SqL X.K H1 l ys) (hz : ys.length ≤ sizeLine)
    (hdone : ∀ s, Inv X pins σ (upd (upd H1 q (.lst ys)) it (ItE it ys.length)) s → Rs (.ok (.ret .none)) s) :
    ∀ (k i : Nat) (s : Shared), ys.length - i = k → i ≤ ys.length → Inv X pins σ (upd (upd H1 q (.lst (ys.take i))) it (ItO l it i)) s → codeAny (model X.prog X.w) A1 (.builtin "list.extend.loop" ⟨[.ref q, .ref it, .none], []⟩) Rs s := by
  have nqi : q ≠ it := fun z => by rw [z, hit] at hq; cases hq
  intro k
  induction k with
  | zero =>
    intro i s hk hi I
    have hin : i = ys.length := by omega
    subst hin
    refine codeAny_builtin PySem.F.entry_extend_loop ?_
    rw [Around.under_plainId PySem.F.plain_extend_loop _]
    show wpAny _ A1.in1 (pyNext (.ref it) >>= _) _ _ s
    have hl2 : SqL X.K (upd (upd H1 q (.lst (ys.take ys.length))) it (ItO l it ys.length)) l ys := sql_step hl hq hit (by
      cases ys with
      | nil => exact Or.inl rfl
      | cons a b => exact Or.inr (fun z => nomatch z))
    obtain ⟨its, rv, pl, hzz⟩ := I.list hl2
    refine wpAny_bind (next_end2 hA (itO_get I upd_same) pl.isList (by rw [List.getElem?_toArray]; exact rv.none_of (by simp)) fun h1 h' e1 sb k => ?_)
    have mu : Mut (upd (upd H1 q (.lst (ys.take ys.length))) it (ItO l it ys.length) it) := by rw [upd_same]; exact True.intro
    have I2 := I.write (x := it) (e := it) (t' := s.toks) mu (.inl rfl) (fun b o nb z => (sb.2 b nb).trans z) ⟨_, e1⟩ (itE_ok e1)
    rw [upd_upd, List.take_length] at I2
    exact wpAny_pure (hdone _ (I2.kept (t' := s.toks) k))
  | succ k ih =>
    intro i s hk hi I
    have hlt : i < ys.length := by omega
    refine codeAny_builtin PySem.F.entry_extend_loop ?_
    rw [Around.under_plainId PySem.F.plain_extend_loop _]
    show wpAny _ A1.in1 (pyNext (.ref it) >>= _) _ _ s
    have hl2 : SqL X.K (upd (upd H1 q (.lst (ys.take i))) it (ItO l it i)) l ys := sql_step hl hq hit (Or.inr fun z => by rw [z] at hlt; cases hlt)
    obtain ⟨its, rv, pl, hzz⟩ := I.list hl2
    have hv : ys[i]? = some ys[i] := List.getElem?_eq_getElem hlt
    obtain ⟨u, hu, ru⟩ := rv.get hv
    refine wpAny_bind (next_item2 (itO_get I upd_same) pl.isList (by rw [List.getElem?_toArray]; exact hu) fun h' e1 sb => ?_)
    have mu : Mut (upd (upd H1 q (.lst (ys.take i))) it (ItO l it i) it) := by rw [upd_same]; exact True.intro
    have I2 := I.write (x := it) (e := it) (t' := s.toks) mu (.inl rfl) (fun b o nb z => (sb.2 b nb).trans z) ⟨_, e1⟩ (itO_ok e1)
    rw [upd_upd] at I2
    show wpAny _ A1.in1 (updateSeq q (·.push u) >>= _) _ _ _
    have hq2 : upd (upd H1 q (.lst (ys.take i))) it (ItO l it (i + 1)) q = some (.lst (ys.take i)) := by rw [upd_ne nqi, upd_same]
    obtain ⟨z, its2, n2, r2, hl3, e⟩ := I2.lstM hq2
    have hti : (ys.take i).length = i := by rw [List.length_take]; omega
    refine wpAny_bind (wpAny_updateSeq e rfl (wpAny_pure ⟨plainId_quiet PySem.F.plain_extend_loop _, ?_⟩) (by rw [List.size_toArray]; omega) (by show (its2.toArray.push u).size ≤ sizeLine + 1; rw [Array.size_push, List.size_toArray]; omega))
    have I3 := I2.lset (f := (·.push u)) (its' := its2 ++ [u]) (ys := ys.take i ++ [ys[i]]) (t' := s.toks) hq2 e (by simp) (r2.append (.cons ru .nil)) (by rw [List.length_append, List.length_singleton]; omega)
    have e5 : ys.take i ++ [ys[i]] = ys.take (i + 1) := by rw [List.take_add_one, hv]; rfl
    rw [e5] at I3
    have e6 : upd (upd (upd H1 q (.lst (ys.take i))) it (ItO l it (i + 1))) q (.lst (ys.take (i + 1))) = upd (upd H1 q (.lst (ys.take (i + 1)))) it (ItO l it (i + 1)) := by
      funext b
      by_cases h1 : b = q
      · subst h1; rw [upd_same, upd_ne nqi, upd_same]
      · by_cases h2 : b = it
        · subst h2; rw [upd_ne h1, upd_same, upd_same]
        · rw [upd_ne h1, upd_ne h2, upd_ne h1, upd_ne h2, upd_ne h1]
    rw [e6] at I3
    exact ih (i + 1) _ (by omega) (by omega) I3

variable {C fi : Addr} {fdI : FuncData} {psI : List Str} {sp : Sp} {n : Nat}
theorem itr_hint {M : Model} {A : Around} {E : Value → Shared → Prop} {Q : Bool → Shared → Prop} {K : PySem.W.Frag} {a : Addr} {ox : Obj} {od : Option Obj} (n1 : NoAttr K C "__len__") (n2 : NoAttr K C "__length_hint__") (hK : K.In s.heap) (J : PySem.W.InstAt s.heap a ox C od) (h : Q true s) :
    wpAny M A (Builtin.List.listLengthHint (.ref a)) Q E s := by
  unfold Builtin.List.listLengthHint
  refine wpAny_bind (wpAny_bind (J.type.here ((PySem.W.looks_findIn hK n1).here ?_)))
  refine PySem.W.KFB.if_not rfl ?_
  refine PySem.W.KFB.if_not rfl ?_
  refine wpAny_bind (wpAny_bind (J.type.here ((PySem.W.looks_findIn hK n2).here ?_)))
  exact wpAny_pure h
/-- list(o) of an o whose __iter__ gives an iterator over a list -/
def rItr (K : PySem.W.Frag) (C : Addr) (sp : Sp) : List V → Hp → VK → Prop := fun xs H Q => ∃ a dx fs, xs = [.ref a] ∧ H a = some (.ins C dx fs) ∧ ∀ q, H q = none →
  sp [.ref a] (upd H q (.lst [])) (fun v H1 => ∃ it l ys, v = .ref it ∧ H1 it = some (ItO l it 0) ∧ H1 q = some (.lst []) ∧ (∃ dx fs, H1 a = some (.ins C dx fs)) ∧ SqL K H1 l ys ∧ Q (.ref q) (upd (upd H1 q (.lst ys)) it (ItE it ys.length))) E0
theorem itr_ext {q a dx : Addr} {fs : List (Str × V)} {H2 : Hp} {Q : VK} (hc : X.calm = true) (me : Meth X.K C "__iter__" fi) (n1 : NoAttr X.K C "__len__") (n2 : NoAttr X.K C "__length_hint__") (FI : FnOk X.prog X.w X.K X.mg X.base CX0 n fi fdI psI sp) (bI : Binds X.K fdI psI []) (xI : Passes CX0 X E0)
    (sb : Sub X n X.A.in1.in1) (I2 : Inv X pins σ H2 s) (ha2 : H2 a = some (.ins C dx fs)) (hq2 : H2 q = some (.lst []))
    (hsp : sp [.ref a] H2 (fun v H1 => ∃ it l ys, v = .ref it ∧ H1 it = some (ItO l it 0) ∧ H1 q = some (.lst []) ∧ (∃ dx fs, H1 a = some (.ins C dx fs)) ∧ SqL X.K H1 l ys ∧ Q (.ref q) (upd (upd H1 q (.lst ys)) it (ItE it ys.length))) E0) :
    wpAny (model X.prog X.w) X.A.in1.in1 (Builtin.List.listExtendWith (.ref q) (.ref a) .none)
      (fun fin s' => match fin with | .done f => wants (fun r s₂ => r = .none ∧ EP X pins σ Q (.ref q) s₂) X.xe (.ok f) s' | .again c' => c'.quiet = true ∧ codeAny (model X.prog X.w) X.A.in1 c' (wants (fun r s₂ => r = .none ∧ EP X pins σ Q (.ref q) s₂) X.xe) s')
      (fun e s' => wants (fun r s₂ => r = .none ∧ EP X pins σ Q (.ref q) s₂) X.xe (.error e) s') s := by
  have hne : q ≠ a := ne_of hq2 ha2 (fun z => nomatch z)
  obtain ⟨mA, J, _⟩ := ins_get I2.hok ha2
  obtain ⟨od, J, _⟩ := J.look
  obtain ⟨m0, hF⟩ := I2.fr
  unfold Builtin.List.listExtendWith
  refine wpAny_bind (J.type.here ?_)
  have h1 : Builtin.List.listSameRef (.ref q) (.ref a) = false := by simp [Builtin.List.listSameRef, hne]
  have h2 : (Value.ref C == Value.type "list") = false := rfl
  have h3 : (Value.ref C == Value.type "tuple") = false := rfl
  simp only [h1, h2, h3, Bool.or_false, Bool.false_eq_true, if_false]
  refine wpAny_bind (PySem.W.owit_iter hF I2.ok.mod.kin J me.at_ me.fn ?_)
  have e0 : Env0 X.prog X.w X.K X.mg X.base X.A.in1.in1 X.stack s H2 := by
    have e := I2.env0
    exact ⟨by rw [sb.fr]; exact e.frames, e.mod, e.bs, e.bsz, e.funs, e.frf, e.hok, e.bare⟩
  have hl := FI.len _ _ _ _ hsp
  have r2 : Vals [V.ref a] [Value.ref a] := .cons rfl .nil
  refine wpAny_call (codeAny_mono (FI.run X.A.in1.in1 X.stack s H2 ⟨[.ref a], []⟩ [.ref a] [.ref a] _ E0 sb.room e0 (by
    have := bI s [.ref a] I2.kIn (by simpa using hl)
    simpa using this) r2 hsp) fun r s' hq' => ?_)
  cases r with
  | error e => exact xI pins σ H2 _ e s' I2 hq'
  | ok fl =>
    cases fl with
    | next => exact False.elim hq'
    | brk => exact False.elim hq'
    | cont => exact False.elim hq'
    | ret u =>
      obtain ⟨v, H1, I', rv, it, l, ys, ev, eit, eq, ⟨dx', fs', ea⟩, el, fin⟩ := I2.after hq'
      subst ev
      cases rv
      have hT : s'.TypeIs (.ref it) "list_iterator" := ⟨_, itO_get I' eit, rfl⟩
      unfold PySem.W.OwitIt
      refine wpAny_specialOf (name := Str.ofString "__next__") hT slot_listiter_next.lookup ?_
      obtain ⟨mA', J', _⟩ := ins_get I'.hok ea
      obtain ⟨od', J', _⟩ := J'.look
      refine wpAny_bind (wpAny_holding (itr_hint n1 n2 I'.kIn J' ?_))
      obtain ⟨z, its, k, r3, hl3, e3⟩ := I'.lstM eq
      cases r3
      have hz : ys.length ≤ sizeLine := (I'.list el).elim fun its z => z.2.2
      have eH : upd (upd H1 q (.lst (ys.take 0))) it (ItO l it 0) = H1 := by
        have nqi : q ≠ it := fun z => by rw [z, eit] at eq; cases eq
        funext b
        by_cases h1 : b = it
        · subst h1; rw [upd_same, eit]
        · rw [upd_ne h1]
          by_cases h2 : b = q
          · subst h2; rw [upd_same, eq]; rfl
          · rw [upd_ne h2]
      have loop : ∀ s3, Inv X pins σ H1 s3 → codeAny (model X.prog X.w) X.A.in1 (.builtin "list.extend.loop" ⟨[.ref q, .ref it, .none], []⟩) (wants (fun r s₂ => r = .none ∧ EP X pins σ Q (.ref q) s₂) X.xe) s3 := fun s3 I3 =>
        itr_loop (A1 := X.A.in1) (I2.ok.hd hc) eq eit el hz (fun s4 I4 => ⟨rfl, .ref q, _, I4, rfl, fin⟩) ys.length 0 s3 rfl (Nat.zero_le _) (by rw [eH]; exact I3)
      refine wpAny_ite_split (fun _ => ?_) (fun _ => wpAny_pure ⟨plainId_quiet PySem.F.plain_extend_loop _, loop s' I'⟩)
      refine wpAny_bind (wpAny_rule ?_)
      refine wpAny_bind ?_
      show wpAny _ _ (updateSeq q (·.push .none) >>= fun _ => updateSeq q (·.pop)) _ _ _
      refine wpAny_bind (wpAny_updateSeq e3 rfl ?_)
      have I5 := I'.lset (f := (·.push Value.none)) (its' := [Value.none]) (ys := [.non]) (t' := s'.toks) eq e3 (by simp) (.cons rfl .nil) (by rw [List.length_singleton, sizeLine_eq]; decide)
      obtain ⟨z4, its4, k4, r4, hl4, e4⟩ := I5.lstM upd_same
      obtain ⟨u4, rfl, ru4⟩ := r4.one
      refine wpAny_updateSeq e4 rfl ?_ (by show 1 ≤ sizeLine; rw [sizeLine_eq]; decide) (by show 0 ≤ sizeLine + 1; exact Nat.zero_le _)
      refine wpAny_pure ⟨plainId_quiet PySem.F.plain_extend_loop _, loop _ ?_⟩
      have I6 := I5.lset (f := (·.pop)) (its := [u4]) (its' := []) (ys := []) (t' := s'.toks) upd_same e4 (by rfl) .nil (Nat.zero_le _)
      rw [upd_upd] at I6
      have hH : upd H1 q (.lst []) = H1 := by
        funext b
        by_cases hb : b = q
        · rw [hb, upd_same, eq]
        · rw [upd_ne hb]
      rw [hH] at I6
      exact I6
theorem call_listItr (hc : X.calm = true) (me : Meth X.K C "__iter__" fi) (n1 : NoAttr X.K C "__len__") (n2 : NoAttr X.K C "__length_hint__") (FI : FnOk X.prog X.w X.K X.mg X.base CX0 n fi fdI psI sp) (bI : Binds X.K fdI psI []) (xI : Passes CX0 X E0) (hr : Room (n + 2) X.A) : CallR X (.type "list") (rItr X.K C sp) := by
  intro pins s σ H xs us Q I rv h
  obtain ⟨a, dx, fs, rfl, ha, hq⟩ := h
  obtain ⟨u, rfl, ru⟩ := rv.one
  cases ru
  have sb : Sub X n X.A.in1.in1 := (Sub.in1 (Sub.in1 (⟨hr, rfl⟩ : Sub X (n + 2) X.A)))
  refine callType_codes (Q₁ := fun obj s₁ => obj = .ref s.heap.objs.size ∧ s₁ = { s with heap := s.heap.push { cls := .type "list", data := .seq #[] } }) PySem.F.called_list (PySem.F.typeCall_list_1 _) PySem.F.entry_list_init
    (code_list_new _ ⟨rfl, rfl⟩) fun obj s₁ h₁ => ?_
  obtain ⟨rfl, rfl⟩ := h₁
  have hS : (s.heap.push { cls := .type "list", data := .seq #[] }).get? s.heap.objs.size = some { cls := .type "list", data := .seq #[] } := Heap.get?_push_size _ rfl
  refine ⟨⟨_, hS, rfl⟩, PySem.F.args_list_init_2 _ _, ?_⟩
  have fr : H s.heap.objs.size = none := I.hok.fresh (Nat.le_refl _)
  have hsp := hq _ fr
  generalize hqq : s.heap.objs.size = q at *
  have I1 : Inv X pins σ (upd H q (.lst [])) { s with heap := s.heap.push { cls := .type "list", data := .seq #[] } } := by
    rw [← hqq]; exact I.lnew (its := []) (t' := s.toks) .nil (Nat.zero_le _)
  show wpAny _ _ (do let old ← Builtin.List.listItems (.ref q); Builtin.List.listUpdate (.ref q) (fun _ => #[]); letGo old.toList.reverse; Builtin.List.listExtendWith (.ref q) (.ref a) .none) _ _ _
  refine wpAny_bind ?_
  unfold Builtin.List.listItems
  refine wpAny_bind (wpAny_seqItems hS rfl (wpAny_pure ?_))
  show wpAny _ _ (updateSeq q (fun _ => #[]) >>= fun _ => letGo (#[] : Array Value).toList.reverse >>= fun _ => Builtin.List.listExtendWith (.ref q) (.ref a) .none) _ _ _
  refine wpAny_bind (wpAny_updateSeq hS rfl ?_)
  have I2 := I1.lset (f := fun _ => #[]) (its := []) (its' := []) (ys := []) (t' := s.toks) upd_same hS rfl .nil (Nat.zero_le _)
  rw [upd_upd] at I2
  refine wpAny_bind (wpAny_letGo ?_)
  have ha2 : upd H q (.lst []) a = some (.ins C dx fs) := by rw [upd_ne (ne_of_none ha fr)]; exact ha
  have hq2 : upd H q (.lst []) q = some (.lst []) := upd_same
  generalize upd H q (.lst []) = H2 at *
  exact itr_ext hc me n1 n2 FI bI xI sb I2 ha2 hq2 hsp
end

/-! ### __iter__ as a promise -/
def spIt (K : PySem.W.Frag) (C : Addr) (R : List (Str × PyData) → List PyData → Prop) : Sp := fun vs H Q _ => ∃ (N : Addr → Prop) (v : V) (m : List (Str × PyData)) (ds : List PyData), vs = [v] ∧ (∀ a, N a → H a ≠ none) ∧ ObOk K N H v C m ∧ R m ds ∧
  ∀ it l ys H1, H it = none → Ex H H1 → H1 it = none → SqL K H1 l ys → DnAll K N H1 ys ds → Q (.ref it) (upd H1 it (ItO l it 0))
theorem spIt_len {K : PySem.W.Frag} {C : Addr} {R : List (Str × PyData) → List PyData → Prop} : ∀ vs H Q E, spIt K C R vs H Q E → vs.length = 1 := fun vs H Q E ⟨N, v, m, ds, e, _⟩ => by rw [e]; rfl
def RetIt (c : Cn) (ds : List PyData) (D : Ends) : Prop := ∀ it l ys H1, (∀ a o, c.H0 a = some o → ¬ c.M a → H1 a = some o) → H1 it = none → SqL c.K H1 l ys → DnAll c.K c.N0 H1 ys ds → D.rt (.ref it) (upd H1 it (ItO l it 0))
theorem gs_retIt {c : Cn} {env : Sy} {os : List SO} {te : TE} {u : TS} {D : Ends} {ds : List PyData} (h : EvX true c env os te (.list ds)) (k : RetIt c ds D) : Go c env os (tSeq (tRet (tCB (rIter c.K) (tCons te tNil))) u) D := fun ad σ H ok =>
  h ad σ H ok _ fun v H2 e r => by
    have ok2 := ok.ext e
    have key : ∀ l ys, v = .ref l → SqL c.K H2 l ys → DnAll c.K c.N0 H2 ys ds → ∃ (l : Addr) (zs : List V), [v] = [.ref l] ∧ SqL c.K H2 l zs ∧ ∀ it, H2 it = none → D.rt (.ref it) (upd H2 it (ItO l it 0)) := fun l ys ev sl a =>
      ⟨l, ys, by rw [ev], sl, fun it hit => k it l ys H2 (fun a o z y => ok2.ex a o z y) hit sl a⟩
    cases r with
    | lst r n a => exact key _ _ rfl (Or.inl r) (a.sub fun b z => Nw_n0 b z)
    | lstK r a => exact key _ _ rfl (Or.inr r) (a.sub fun b z => Nw_n0 b z)
theorem run_spIt {K : PySem.W.Frag} {C : Addr} {R : List (Str × PyData) → List PyData → Prop} {vs : List V} {H : Hp} {Q : VK} {E : XK} {Nm : List Str} {t : TS} (h : spIt K C R vs H Q E)
    (g : ∀ N m ds, R m ds → RetIt ⟨K, H, N, fun _ => False, [], 0⟩ ds (De Q) → Go ⟨K, H, N, fun _ => False, [], 0⟩ (envS Nm.length [.ob C m]) [] t (De Q)) : t (De Q) (L2.start Nm vs) H := by
  obtain ⟨N, v, m, ds, rfl, hN, hv, hR, hq⟩ := h
  exact g N m ds hR (fun it l ys H1 ex h1 h2 h3 => hq it l ys H1 (by
    cases hz : H it with
    | none => rfl
    | some o => rw [ex it o hz id] at h1; cases h1) (fun a o z => ex a o z id) h1 h2 h3) _ _ _ (ok_startS hN (.cons hv .nil))
section
variable {X : Cx} {K : PySem.W.Frag} {k j : Nat} {ps : List Str} {C : Addr} {sp : Sp}
theorem crListItr (h : MetP X.prog X.w X.K X.mg X.base k C "__iter__" ps sp) (n1 : NoAttr X.K C "__len__") (n2 : NoAttr X.K C "__length_hint__") (hr : Room j X.A) (hj : k + 2 ≤ j) (hx : Passes CX0 X E0) (hc : X.calm = true := by rfl) : CallR X (.type "list") (rItr X.K C sp) := by
  obtain ⟨f, fd, c, me, G, b⟩ := h
  exact call_listItr hc me n1 n2 G b hx (hr.mono hj)
theorem ef_listB {c : Cn} {env : Sy} {os : List SO} {te : TE} {R : List (Str × PyData) → List PyData → Prop} {m : List (Str × PyData)} {ds : List PyData} (h : EvB c env os te C m) (hR : R m ds) : EvF c env os (tCB (rItr c.K C (spIt c.K C R)) (tCons te tNil)) (.lst (ds.map SV.i)) := fun ad σ H ok Q q =>
  h ad σ H ok _ fun v H1 e1 r1 => by
    obtain ⟨a, dx, fs, ev, ha, hna, hp⟩ := id r1
    subst ev
    refine ⟨a, dx, fs, rfl, ha, fun p hp0 => ?_⟩
    have ok1 := ok.ext e1
    have ex1 : Ex H1 (upd H1 p (.lst [])) := Ex.new hp0
    refine ⟨fun b => Nof c ad os b ∨ b = p, .ref a, m, ds, rfl, fun b z => z.elim (fun z => ex1.some (ok1.nof z)) (fun z => by rw [z, upd_same]; exact fun y => nomatch y), (r1.add hp0).ext ex1, hR, fun it l ys H2 hit e2 hit2 sl dn => ?_⟩
    have hpit : p ≠ it := fun z => by rw [z, upd_same] at hit; cases hit
    have h2p : H2 p = some (.lst []) := e2 _ _ upd_same
    refine ⟨it, l, ys, rfl, upd_same, by rw [upd_ne hpit]; exact h2p, ⟨dx, fs, by
      have := e2 _ _ (ex1 _ _ ha)
      rw [upd_ne (ne_of_none this hit2)]; exact this⟩, ?_, ?_⟩
    · rcases sl with (sl | ⟨u, sl⟩) | sl
      · exact Or.inl (Or.inl (by rw [upd_ne (ne_of_none sl hit2)]; exact sl))
      · exact Or.inl (Or.inr ⟨u, by rw [upd_ne (ne_of_none sl hit2)]; exact sl⟩)
      · exact Or.inr sl
    · have hH : upd (upd (upd H2 it (ItO l it 0)) p (.lst ys)) it (ItE it ys.length) = upd (upd H2 p (.lst ys)) it (ItE it ys.length) := by
        funext b
        by_cases h1 : b = it
        · subst h1; rw [upd_same, upd_same]
        · rw [upd_ne h1, upd_ne h1]
          by_cases h2 : b = p
          · subst h2; rw [upd_same, upd_same]
          · rw [upd_ne h2, upd_ne h2, upd_ne h1]
      rw [hH]
      have m1 := DnAll.mut (p := p) (o := .lst []) (o' := .lst ys) h2p rfl (Or.inr rfl) dn
      have hit3 : upd H2 p (.lst ys) it = none := by rw [upd_ne (Ne.symm hpit)]; exact hit2
      have ex3 : Ex (upd H2 p (.lst ys)) (upd (upd H2 p (.lst ys)) it (ItE it ys.length)) := Ex.new hit3
      refine q p _ (e1.free hp0) (fun b o z => ?_) ⟨ys, by rw [upd_ne hpit, upd_same], dn_paired (m1.ext ex3)⟩
      have hb : b ≠ p := ne_of_none (e1 _ _ z) hp0
      have h3 : H2 b = some o := e2 _ _ (by rw [upd_ne hb]; exact e1 _ _ z)
      rw [upd_ne (ne_of_none h3 hit2), upd_ne hb]
      exact h3
end
/-! ### properties -/
def PropP (P : Program) (w : World) (K : PySem.W.Frag) (mg : Str → Option Value) (base : Heap) (k : Nat) (C : Addr) (f : Str) (sp : Sp) : Prop :=
  ∃ p g fd, Cls K C ∧ PropOf K C f p g ∧ FnOk P w K mg base CX0 k g fd ["self"] sp ∧ Binds K fd ["self"] []
theorem pe_propP {X : Cx} {k j : Nat} {C : Addr} {f : Str} {sp : Sp} {e : Expr} {pos : Pos} {ta : TE} (h : PropP X.prog X.w X.K X.mg X.base k C f sp) (hr : Room j X.A) (hj : k + 1 ≤ j) (hx : Passes CX0 X.nox E0) (he : PE X e ta) (hab : attributeBase e f X.env (eval e X.env) = eval e X.env := by rfl) :
    PE X (.Attribute e f pos) (tProp C sp [] E0 ta) := by
  obtain ⟨p, g, fd, c, po, G, b⟩ := h
  exact pe_prop he c po G (hr.mono hj) b .nil hx hab
theorem ex_prop {w : Bool} {c : Cn} {env : Sy} {os : List SO} {te : TE} {C : Addr} {m : List (Str × PyData)} {d : PyData} {E : XK} {R : List (Str × PyData) → List PyData → PyData → Prop} (h : EvB c env os te C m) (hR : R m [] d) : EvX w c env os (tProp C (spSD c.K C R) [] E te) d := EvX.weak fun ad σ H ok Q q =>
  h ad σ H ok _ fun v H1 e1 r1 => by
    obtain ⟨a, dx, fs, ev, ha, _⟩ := id r1
    subst ev
    exact ⟨a, dx, fs, rfl, ha, Nof c ad os, _, _, m, [], d, rfl, fun b z => (ok.ext e1).nof z, r1, .nil, hR, fun v' H' e' r' => q v' H' (e1.trans e') (by rw [Nw_false]; exact r')⟩
theorem prop_mk {P : Program} {w : World} {K : PySem.W.Frag} {mg : Str → Option Value} {base : Heap} {x qual : Str} {st : Stmt} {p f : Addr} {fd : FuncData} {N : List Str} {k : Nat} {sp : Sp} {C : Addr} (F : FnM K x qual st [] f fd) (S : FnScope N ["self"] (defScope st)) (c : Cls K C) (me : PropOf K C x p f) (len : ∀ vs H Q E, sp vs H Q E → vs.length = 1)
    (hb : ∀ (kV doc pm : Value) (an : Option Addr) (cdv ct : Value) (us : List Value), us.length = 1 → bindArgs (PySem.W.fnOf x qual (defArgs st) (defBody st) (defScope st) .none kV doc pm an cdv ct) ⟨us, []⟩ = pure ((["self"] : List Str).zip us))
    (hbody : ∀ (cdv : Value) (A : Around) (outer : List Env) (s : Shared) (H : Hp) (vs : List V) (Q : VK) (E : XK), Room k (A.deeper (envOfC qual (defScope st) s.heap.objs.size f cdv)) → sp vs H Q E →
      ∃ t, PSs (cxOf CX0 P w K mg base N qual (defScope st) f cdv A outer s H E).nox (defBody st) t ∧ t (De Q) (L2.start N vs) H) : PropP P w K mg base (k + 1) C x sp :=
  ⟨p, f, fd, c, me, F.ok S len fun cdv A outer s H vs Q E hr h => let ⟨t, a, b⟩ := hbody cdv A outer s H vs Q E hr h; ⟨t, a.nox, b⟩, F.bindsN hb⟩
end DL
namespace DL
open PySem PySem.Spec PyProof.Rows L2 He
/-! ### the head's facts of properties -/
structure PrD where
  cl : Str
  f : Str
  d : DefD
def prP (K : PySem.W.Frag) (p : PrD) : Addr := match PySem.W.findIn K (.ref (ga K p.cl)) p.f with
  | some (some (.ref a)) => a
  | _ => 0
def prG (K : PySem.W.Frag) (p : PrD) : Addr := match PySem.W.recIn K (prP K p) "property" with
  | some (.ref g :: _) => g
  | _ => 0
def fnWA (K : PySem.W.Frag) (a : Addr) : FnW := match K.lookup a with
  | some ⟨_, _, .func fd, _⟩ => some (fd.name, fd.qualname, fd.params, fd.body, fd.scope, fd.globals, fd.closure, fd.builtins)
  | _ => none
def okA (K : PySem.W.Frag) (a : Addr) (d : DefD) : Bool := PySem.W.keepIn K (.ref a) && (match K.lookup a with
  | some ⟨_, _, .func fd, _⟩ => PySem.W.codeIn K fd.code d.qual && (dflB K fd.defaults (d.dvs K) && kwdB K fd.kwdefaults (d.kws K))
  | _ => false)
theorem funDA {K : PySem.W.Frag} {a : Addr} {d : DefD} (e : fnWA K a = d.val) (c : okA K a d = true) : ∃ fd, FunD K d.name d.qual d.params d.body d.scope (d.dvs K) (d.kws K) a fd := by
  obtain ⟨kp, c2⟩ := ba c
  unfold fnWA at e
  cases q : K.lookup a with
  | none =>
    rw [q] at c2
    cases c2
  | some o =>
    obtain ⟨oc, od, dt, osl⟩ := o
    rw [q] at c2 e
    cases dt with
    | func fd =>
      obtain ⟨n1, n2, n3, n4, n5, n6, n7, n8, n9, n10, n11, n12, n13, n14, n15⟩ := fd
      have e2 : (some (n1, n2, n3, n4, n5, n6, n7, n15) : FnW) = some (d.name, d.qual, d.params, .stmts d.body, d.scope, mainGlobals, [], builtinsNs) := e
      simp only [Option.some.injEq, Prod.mk.injEq] at e2
      obtain ⟨h1, h2, h3, h4, h5, h6, h7, h8⟩ := e2
      subst h1 h2 h3 h4 h5 h6 h7 h8
      have c3 : (PySem.W.codeIn K n13 d.qual && (dflB K n8 (d.dvs K) && kwdB K n9 (d.kws K))) = true := c2
      obtain ⟨k1, k2⟩ := ba c3
      obtain ⟨k3, k4⟩ := ba k2
      exact ⟨_, ⟨oc, od, n8, n9, n10, n11, n12, n13, n14, osl, rfl, q, k1, dflB_ok k3, kwdB_ok k4⟩, kp⟩
    | _ => cases c2
def PrD.ok (K : PySem.W.Frag) (p : PrD) : Bool := eqO (PySem.W.findIn K (.ref (ga K p.cl)) p.f) (some (some (.ref (prP K p)))) && (eqO (PySem.W.specialIn K (.ref (prP K p)) "__get__") (some (some (.builtin "property.__get__"))) && (decide (PySem.W.takesIn K (.ref (prP K p)) = some true) && ((match PySem.W.recIn K (prP K p) "property" with
  | some (.ref g :: _) => true
  | _ => false) && okA K (prG K p) p.d)))
theorem PrD.prop {K : PySem.W.Frag} {p : PrD} (c : p.ok K = true) : PropOf K (ga K p.cl) p.f (prP K p) (prG K p) := by
  obtain ⟨c1, c⟩ := ba c
  obtain ⟨c2, c⟩ := ba c
  obtain ⟨c3, c⟩ := ba c
  obtain ⟨c4, _⟩ := ba c
  refine ⟨eqO_ok c1, eqO_ok c2, of_decide_eq_true c3, ?_⟩
  unfold prG
  split at c4
  · rename_i g r e
    rw [e]
    exact ⟨r, rfl⟩
  · cases c4
abbrev AlP : Type := AlX × Bool × List FnW
def obsP (n : Nat) (fa : List Fa) (fn : List DefD) (ts : List Tab) (tf : List Defn) (ex : PySem.W.Frag → Bool) (pn : List PrD) (g : Addr → Option Obj) : AlP := (obsX n fa fn ts tf ex g, pn.all (PrD.ok (frT g (asD g n))), pn.map fun p => fnWA (frT g (asD g n)) (prG (frT g (asD g n)) p))
def valP (fn : List DefD) (ts : List Tab) (pn : List PrD) (w : World) : AlP := (valX fn ts w, true, pn.map fun p => p.d.val)
structure SaysP (fa : List Fa) (fn : List DefD) (ts : List Tab) (tf : List Defn) (ex : PySem.W.Frag → Bool) (pn : List PrD) (w : World) (h : Heap) (K : PySem.W.Frag) : Prop where
  x : SaysX fa fn ts tf ex w h K
  b : ∀ p ∈ pn, p.ok K = true
  v : pn.map (fun p => fnWA K (prG K p)) = pn.map fun p => p.d.val
def hookP (n : Nat) (fa : List Fa) (fn : List DefD) (ts : List Tab) (tf : List Defn) (ex : PySem.W.Frag → Bool) (pn : List PrD) : PySem.W.Hook where
  α := AlP
  obs := fun s => obsP n fa fn ts tf ex pn s.heap.get?
  val := fun w => valP fn ts pn w
  says := fun w h => ∃ K : PySem.W.Frag, K.In h ∧ SaysP fa fn ts tf ex pn w h K
  of := fun w s e => ⟨_, frT_in, saysX_of (n := n) (congrArg (fun z : AlP => z.1) e), List.all_eq_true.mp (congrArg (fun z : AlP => z.2.1) e), congrArg (fun z : AlP => z.2.2) e⟩
  keeps := fun _ _ _ ⟨K, hK, c⟩ k => ⟨K, PySem.W.Frag.In.keeps hK k, ⟨c.x.t, c.x.more, c.x.hd, c.x.out, fun p hp => k _ _ (c.x.empty p hp)⟩, c.b, c.v⟩
theorem obsP_eq {n : Nat} {fa : List Fa} {fn : List DefD} {ts : List Tab} {tf : List Defn} {ex : PySem.W.Frag → Bool} {pn : List PrD} {g : Addr → Option Obj} {s : Shared} (h : ∀ a, g a = s.heap.get? a) : obsP n fa fn ts tf ex pn g = (hookP n fa fn ts tf ex pn).obs s := by
  have e : g = s.heap.get? := funext h
  rw [e] <;> rfl
theorem SaysP.prop_ {fa : List Fa} {fn : List DefD} {ts : List Tab} {tf : List Defn} {ex : PySem.W.Frag → Bool} {pn : List PrD} {w : World} {h : Heap} {K : PySem.W.Frag} (c : SaysP fa fn ts tf ex pn w h K) (i : Nat) {p : PrD} (hp : pn[i]? = some p := by rfl) :
    PropOf K (ga K p.cl) p.f (prP K p) (prG K p) ∧ ∃ fd, FunD K p.d.name p.d.qual p.d.params p.d.body p.d.scope (p.d.dvs K) (p.d.kws K) (prG K p) fd := by
  have c1 := c.b p (List.mem_of_getElem? hp)
  have e2 : (pn.map fun p => fnWA K (prG K p))[i]? = (pn.map fun p => p.d.val)[i]? := by rw [c.v]
  rw [List.getElem?_map, List.getElem?_map, hp] at e2
  refine ⟨PrD.prop c1, funDA (Option.some.inj e2) ?_⟩
  obtain ⟨_, c⟩ := ba c1
  obtain ⟨_, c⟩ := ba c
  obtain ⟨_, c⟩ := ba c
  exact (ba c).2
theorem walk_endP {n : Nat} {l : PySem.W.OpenLaw} {k : Nat} {q : Program} {loose : List Str} {XP : (Str → Option Value) → Heap → Prop} {d : DefRec} {fa : List He.Fa} {fn : List He.DefD} {ts : List He.Tab} {tf : List He.Defn} {ex : PySem.W.Frag → Bool} {pn : List PrD} {st : Stmt}
    (hn : l.most = some 63) (hdf : d.params.defaults = []) (hr : Room k callerA) (hd : d.name = ("law" : Str))
    (hba : ∀ (kV doc pm : Value) (an : Option Addr) (cdv ct : Value) (us : List Value), us.length = 1 → bindArgs (PySem.W.fnOf "law" "law" (defArgs st) (defBody st) (defScope st) .none kV doc pm an cdv ct) ⟨us, []⟩ = pure ((["script"] : List Str).zip us))
    (F : ∀ (w : World) (mg : Str → Option Value) (K : PySem.W.Frag) (h : Heap), K.In h → h.Ns mainGlobals mg → SaysP fa fn ts tf ex pn w h K → mg "law" = some (.ref (He.ga K "law")) ∧ ∃ fd, FnP K "law" st (He.ga K "law") fd ∧
      ∀ base : Heap, K.In base → base.Ns mainGlobals mg → FnOk l.prog w K mg base CX0 k (He.ga K "law") fd ["script"] (spD K RLaw)) :
    PySem.W.WalkO q loose XP (hookP n fa fn ts tf ex pn).says l.row.toRowW d [] (fun f vs => PySem.call f vs) := by
  refine L2.walk_ofE (k := k) (x := "script") (CX := CX0) hn (by decide) hdf hr ?_ (fun _ _ _ _ z => z)
  intro w mg fa' h Y G hmg
  obtain ⟨K, KX, c⟩ := Y
  rw [hd] at hmg
  obtain ⟨h0, fd, h1, h2⟩ := F w mg K h KX G c
  rw [h0] at hmg
  cases hmg
  exact ⟨K, fd, spD K RLaw, KX, fun s u => FunD.bindsA (ps := ["script"]) h1 hba s [u] rfl, fun H a ns hl _ hS => law_sp hl hS, h2⟩

end DL
namespace DL
open PySem PySem.Spec PyProof.Rows L2
open Evl (Ex Ex.refl Ex.trans Ex.new)
/-! ### making, with defaults ahead of what is written -/
abbrev CForm2 := Nat × List Str × List (Str × V) × List (Str × V)
def FormOk2 (K : PySem.W.Frag) (fd : FuncData) (ps : List Str) (F : CForm2) : Prop := ∃ da db, KBn K fd ps F.1 F.2.1 (fun us ws => us ++ (da ++ (ws ++ db))) (fun vs zs => vs ++ (F.2.2.1.map (·.2) ++ (zs ++ F.2.2.2.map (·.2))))
def MakP2 (P : Program) (w : World) (K : PySem.W.Frag) (mg : Str → Option Value) (base : Heap) (k : Nat) (x : Str) (C : Addr) (ps : List Str) (sp : Sp) (fs : List CForm2) : Prop :=
  ∃ f fd, Mk K C f ∧ FnOk P w K mg base CX0 k f fd ps sp ∧ (∀ F ∈ fs, FormOk2 K fd ps F) ∧ mg x = some (.ref C)
theorem form_mk2 {K : PySem.W.Frag} {x qual : Str} {params : Arguments} {body : List Stmt} {scope : Scope} {kws : List (Str × V)} {f : Addr} {fd : FuncData} {ps : List Str} (F : FunD K x qual params body scope [] kws f fd) (n : Nat) (ks : List Str) (ma mb : List (Str × V)) (hk : kws ≠ []) (h1 : ∀ q ∈ ma, q ∈ kws) (h2 : ∀ q ∈ mb, q ∈ kws)
    (h : ∀ (D : Addr) (doc pm : Value) (an : Option Addr) (cdv ct : Value) (us va vb ws : List Value), us.length = n → va.length = ma.length → vb.length = mb.length → ws.length = ks.length →
      KwChain D ((ma.map (·.1)).zip va ++ (mb.map (·.1)).zip vb) (bindArgs (PySem.W.fnOf x qual params body scope .none (.ref D) doc pm an cdv ct) ⟨us, ks.zip ws⟩) (ps.zip (us ++ (va ++ (ws ++ vb))))) : FormOk2 K fd ps (n, ks, ma, mb) := by
  obtain ⟨oc, od, dV, kV, doc, pm, an, cdv, ct, osl, rfl, lk, hcd, hD, hK⟩ := F.ex
  rcases hD with ⟨_, rfl⟩ | ⟨e, _⟩
  · rcases hK with e | ⟨D, rfl, hq⟩
    · exact absurd e hk
    · obtain ⟨va, hl, rk, hks⟩ := kwd_vals (ms := ma) fun q hm => hq q (h1 q hm)
      obtain ⟨vb, hl2, rk2, hks2⟩ := kwd_vals (ms := mb) fun q hm => hq q (h2 q hm)
      exact ⟨va, vb, ⟨fun s us ws X l1 l2 => BindsTo.of_looks fun M => KwChain.looks X (fun q hq => (List.mem_append.mp hq).elim (hks q) (hks2 q)) (h D doc pm an cdv ct us va vb ws l1 hl hl2 l2), fun r1 r2 => r1.append (rk.append (r2.append rk2))⟩⟩
  · exact absurd rfl e
theorem mak_mk2 {P : Program} {w : World} {K : PySem.W.Frag} {mg : Str → Option Value} {base : Heap} {x y qual : Str} {st : Stmt} {f : Addr} {fd : FuncData} {N ps : List Str} {k : Nat} {sp : Sp} {C : Addr} {kws : List (Str × V)} {fs : List CForm2} (F : FnM K y qual st kws f fd) (S : FnScope N ps (defScope st)) (M : Mk K C f) (g : mg x = some (.ref C)) (len : ∀ vs H Q E, sp vs H Q E → vs.length = ps.length)
    (hf : ∀ F ∈ fs, FormOk2 K fd ps F)
    (hbody : ∀ (cdv : Value) (A : Around) (outer : List Env) (s : Shared) (H : Hp) (vs : List V) (Q : VK) (E : XK), Room k (A.deeper (envOfC qual (defScope st) s.heap.objs.size f cdv)) → sp vs H Q E →
      ∃ t, PSs (cxOf CX0 P w K mg base N qual (defScope st) f cdv A outer s H E).nox (defBody st) t ∧ t (De Q) (L2.start N vs) H) : MakP2 P w K mg base (k + 1) x C ps sp fs :=
  ⟨f, fd, M, F.ok S len fun cdv A outer s H vs Q E hr h => let ⟨t, a, b⟩ := hbody cdv A outer s H vs Q E hr h; ⟨t, a.nox, b⟩, hf, g⟩
theorem pe_makP2 {X : Cx} {k j : Nat} {ps : List Str} {sp : Sp} {x : Str} {p pos : Pos} {e : Expr} {es : List Expr} {t tk : TA} {C : Addr} {kws : List Keyword} {fs : List CForm2} {n : Nat} {ks : List Str} {ma mb : List (Str × V)} (h : MakP2 X.prog X.w X.K X.mg X.base k x C ps sp fs) (hF : (n + 1, ks, ma, mb) ∈ fs) (hr : Room j X.A) (hj : k + 1 ≤ j) (hg : Gl X x) (hx : Passes CX0 X E0) (ha : PA X (e :: es) t) (hkw : PK X kws tk)
    (hall : (backToKw pos (keywordEach kws X.env)).all (·.1.isSome) = true := by rfl) (hks : (backToKw pos (keywordEach kws X.env)).filterMap (·.1) = ks := by rfl) (hdb : (x == ("__debug__" : Str)) = false := by decide)
    (he : starEach (e :: es) X.env = (false, eval e X.env) :: starEach es X.env := by rfl) (hpl : ((backTo pos (starEach (e :: es) X.env)).any (·.1) || (backToKw pos (keywordEach kws X.env)).any (·.1.isNone)) = false := by rfl) :
    PE X (.Call (.Name x p) (e :: es) kws pos) (tMakeK C n ks.length sp (fun vs zs => vs ++ (ma.map (·.2) ++ (zs ++ mb.map (·.2)))) E0 t tk) := by
  obtain ⟨f, fd, M, G, b, g⟩ := h
  obtain ⟨da, db, hb⟩ := b _ hF
  exact pe_makeK M G (hr.mono hj) hg g hb hx ha hkw hall hks hdb he hpl
theorem eb_make2 {c : Cn} {env : Sy} {os : List SO} {t tk : TA} {C : Addr} {m : List (Str × PyData)} {R : List PyData → List (Str × PyData) → Prop} {E : XK} {n k : Nat} {ds es da db : List PyData} {va vb : List V} (h : EvA false c env os t ds) (hk : EvA false c env os tk es) (ha : ∀ N H, DnAll c.K N H va da) (hb : ∀ N H, DnAll c.K N H vb db) (l1 : ds.length = n) (l2 : es.length = k) (hR : R (ds ++ (da ++ (es ++ db))) m) :
    EvB c env os (tMakeK C n k (spO c.K C R) (fun vs zs => vs ++ (va ++ (zs ++ vb))) E t tk) C m := fun ad σ H ok Q q =>
  h ad σ H ok _ fun vs H1 e1 a1 => hk ad σ H1 (ok.ext e1) _ fun zs H2 e2 a2 => by
    rw [Nw_false] at a1 a2
    have ok2 := (ok.ext e1).ext e2
    refine ⟨a1.length.trans l1, a2.length.trans l2, fun x dx hx hdx hne => ?_⟩
    have e3 : Ex H2 (upd H2 dx (.own x)) := Ex.new hdx
    have hx3 : upd H2 dx (.own x) x = none := by rw [upd_ne (Ne.symm hne)]; exact hx
    have e4 : Ex (upd H2 dx (.own x)) (upd (upd H2 dx (.own x)) x (.ins C dx [])) := Ex.new hx3
    have hnx : ¬ Nof c ad os x := fun z => ok2.nof z hx
    refine ⟨Nof c ad os, x, dx, vs ++ (va ++ (zs ++ vb)), _, m, rfl, upd_same, fun b z => (e3.trans e4).some (ok2.nof z), hnx, ?_, hR, fun H' e' r => ⟨rfl, ?_⟩⟩
    · exact ((DnAll.add hx3 (((a1.ext e2).append ((ha _ _).append (a2.append (hb _ _)))).ext e3)).ext e4)
    · have ex2 : Ex H2 H' := fun a o z => e' a o ((e3.trans e4) a o z) (ne_of_none z hx)
      exact q _ H' ((e1.trans e2).trans ex2) r
theorem kIter {X : Cx} {K : PySem.W.Frag} (h : X.K = K := by rfl) : CallR X (.builtin "iter") (rIter K) := by subst h; exact call_iterL
theorem kListItr {X : Cx} {K : PySem.W.Frag} {k j : Nat} {ps : List Str} {C : Addr} {sp : Sp} {P : Program} {w : World} {mg : Str → Option Value} {base : Heap} (m : MetP P w K mg base k C "__iter__" ps sp) (n1 : NoAttr K C "__len__") (n2 : NoAttr K C "__length_hint__") (hr : Room j X.A) (hj : k + 2 ≤ j) (hx : Passes CX0 X E0) (h : X.K = K := by rfl) (h1 : X.prog = P := by rfl) (h2 : X.w = w := by rfl) (h3 : X.mg = mg := by rfl) (h4 : X.base = base := by rfl) (hc : X.calm = true := by rfl) : CallR X (.type "list") (rItr K C sp) := by
  subst h h1 h2 h3 h4
  exact crListItr m n1 n2 hr hj hx hc
end DL
namespace DL
open PySem PySem.Spec PyProof.Rows L2
open Evl (Ex Ex.refl Ex.trans Ex.new)
/-! ### a def that takes a list over: gives it back, or a new list -/
def spV (K : PySem.W.Frag) (j : Nat) (R : List PyData → List PyData → Prop) : Sp := fun vs H Q _ => ∃ (N : Addr → Prop) (l : Addr) (ds rs es : List PyData) (ws : List V), (∀ a, N a → H a ≠ none) ∧ ¬ N l ∧ H l = some (.lst ws) ∧ DnAll K (fun a => N a ∨ a = l) H ws es ∧ ds[j]? = some (.list es) ∧ Paired (SvOk K (fun a => N a ∨ a = l) (fun _ => l) 1 H) vs ((ds.map SV.i).set j (.r 0)) ∧ R ds rs ∧
  ∀ p H' ws', (p = l ∨ H p = none) → (∀ a o, H a = some o → a ≠ l → H' a = some o) → H' p = some (.lst ws') → DnAll K (fun a => N a ∨ a = p) H' ws' rs → Q (.ref p) H'
theorem spV_len {K : PySem.W.Frag} {j n : Nat} {R : List PyData → List PyData → Prop} (hR : ∀ ds d, R ds d → ds.length = n) : ∀ vs H Q E, spV K j R vs H Q E → vs.length = n := fun vs H Q E ⟨N, l, ds, rs, es, ws, _, _, _, _, _, h, r, _⟩ => by rw [Paired.length h, List.length_set, List.length_map, hR ds rs r]
def RetV (c : Cn) (ds : List PyData) (D : Ends) : Prop := ∀ p H2 ws, (c.H0 p = none ∨ c.M p) → (∀ a o, c.H0 a = some o → ¬ c.M a → H2 a = some o) → H2 p = some (.lst ws) → DnAll c.K (fun a => c.N0 a ∨ a = p) H2 ws ds → D.rt (.ref p) H2
theorem gs_retV {c : Cn} {env : Sy} {os : List SO} {te : TE} {u : TS} {D : Ends} {k : Nat} {ds : List PyData} (h : EvR c env os te k) (hk : os[k]? = some (.lst (ds.map SV.i))) (q : RetV c ds D) : Go c env os (tSeq (tRet te) u) D := fun ad σ H ok =>
  h.2 ad σ H ok _ fun H2 e => by
    have ok2 := ok.ext e
    obtain ⟨h0, vs, h1, h2⟩ := ok2.obj k _ hk rfl
    refine q (ad k) H2 vs h0 ok2.ex h1 ((paired_dn h2).sub fun a z => ?_)
    rcases z with z | z
    · exact Or.inl z
    · exact Or.inr ⟨k, ⟨_, hk, rfl⟩, z⟩
theorem run_spV {K : PySem.W.Frag} {j : Nat} {R : List PyData → List PyData → Prop} {vs : List V} {H : Hp} {Q : VK} {E : XK} {Nm : List Str} {t : TS} (h : spV K j R vs H Q E)
    (g : ∀ N l ds rs es, ds[j]? = some (.list es) → R ds rs → RetV ⟨K, H, N, fun a => a = l, [(.ref l, .r 0)], 1⟩ rs (De Q) → Go ⟨K, H, N, fun a => a = l, [(.ref l, .r 0)], 1⟩ (envS Nm.length ((ds.map SV.i).set j (.r 0))) [.lst (es.map SV.i)] t (De Q)) : t (De Q) (L2.start Nm vs) H := by
  obtain ⟨N, l, ds, rs, es, ws, hN, hnl, hl, hw, hj, hp, hR, hq⟩ := h
  have lv : ∀ k, Lv [SO.lst (es.map SV.i)] k → k = 0 := fun k ⟨o, e, _⟩ => by
    match k, e with
    | 0, _ => rfl
  have hNo : ∀ a, Nof ⟨K, H, N, fun a => a = l, [(.ref l, .r 0)], 1⟩ (fun _ => l) [SO.lst (es.map SV.i)] a → N a ∨ a = l := fun a h => by
    rcases h with h | ⟨k, _, e⟩
    · exact Or.inl h
    · exact Or.inr e
  refine g N l ds rs es hj hR (fun p H2 ws' hp0 ex h1 h2 => hq p H2 ws' (hp0.elim Or.inr Or.inl) (fun a o z ne => ex a o z ne) h1 h2) (fun _ => l) _ _ ?_
  refine ⟨?_, fun a o e _ => e, hN, fun i s e => ?_, fun k o e _ => ?_, fun k j a b _ => (lv k a).trans (lv j b).symm, fun k _ => hnl, fun p hp => ?_, Nat.le_refl _⟩
  · have := Paired.length hp
    unfold L2.start envS; simp at this ⊢; omega
  · unfold envS at e
    have hl2 := Paired.length hp
    by_cases hi : i < ((ds.map SV.i).set j (.r 0)).length
    · rw [List.getElem?_append_left (by simpa using hi), List.getElem?_map] at e
      cases hd : ((ds.map SV.i).set j (.r 0))[i]? with
      | none => rw [hd] at e; cases e
      | some d =>
        rw [hd] at e
        cases e
        obtain ⟨v, h1, h2⟩ := paired_get hp hd
        refine ⟨v, ?_, h2.sub hNo⟩
        unfold L2.start
        rw [List.getElem?_append_left (by rw [List.length_map, hl2]; exact hi), List.getElem?_map, h1]
        rfl
    · rw [List.getElem?_append_right (by simpa using hi), List.getElem?_replicate] at e
      split at e <;> cases e
  · match k, e with
    | 0, e =>
      cases e
      exact ⟨Or.inr rfl, ws, hl, dn_paired (hw.sub hNo)⟩
  · rw [List.mem_singleton.mp hp]
    exact ⟨rfl, Nat.lt_succ_self 0⟩
theorem gs_retCV {c : Cn} {env : Sy} {os : List SO} {ta : TA} {u : TS} {D : Ends} {R : List PyData → List PyData → Prop} {E : XK} {ss : List SV} {ds es rs : List PyData} {j k : Nat} (h : EvAS c env os ta ss) (hss : ss = (ds.map SV.i).set j (.r k)) (hj : ds[j]? = some (.list es)) (hk : os[k]? = some (.lst (es.map SV.i))) (hR : R ds rs) (hM : ∀ a, ¬ c.M a) (q : RetF c rs D) : Go c env os (tSeq (tRet (tCall (spV c.K j R) [] E ta)) u) D := fun ad σ H ok =>
  h ad σ H ok _ fun vs H2 e a => by
    subst hss
    have ok2 := ok.ext e
    obtain ⟨h0, ws, h1, h2⟩ := ok2.obj k _ hk rfl
    have hN : ∀ x, (Nof c ad os x ∧ x ≠ ad k) ∨ x = ad k → Nof c ad os x := fun x z => z.elim (fun z => z.1) fun z => Or.inr ⟨k, ⟨_, hk, rfl⟩, z⟩
    rw [List.append_nil]
    have hpair : ∀ (vs : List V) (ss : List SV), Paired (SvOk c.K (Nof c ad os) ad os.length H2) vs ss → ∀ _i : Nat, (∀ x ∈ ss, (∃ d, x = .i d)) → Paired (SvOk c.K (fun x => (Nof c ad os x ∧ x ≠ ad k) ∨ x = ad k) (fun _ => ad k) 1 H2) vs ss := fun vs ss p => by
      induction p with
      | nil => intro _ _; exact .nil
      | cons r t ih =>
        intro i hx
        refine .cons ?_ (ih i fun x hm => hx x (List.mem_cons_of_mem _ hm))
        obtain ⟨d, rfl⟩ := hx _ (List.mem_cons_self ..)
        exact Dn.sub hN r
    have hset : ∀ (vs : List V) (qs : List PyData) (i : Nat), Paired (SvOk c.K (Nof c ad os) ad os.length H2) vs ((qs.map SV.i).set i (.r k)) → Paired (SvOk c.K (fun x => (Nof c ad os x ∧ x ≠ ad k) ∨ x = ad k) (fun _ => ad k) 1 H2) vs ((qs.map SV.i).set i (.r 0)) := fun vs qs => by
      induction qs generalizing vs with
      | nil => intro i p; cases p; exact .nil
      | cons x qs ih =>
        intro i p
        cases i with
        | zero =>
          cases p with
          | cons r t => exact .cons ⟨r.1, Nat.lt_succ_self 0⟩ (hpair _ _ t 0 fun y hy => by obtain ⟨d, _, rfl⟩ := List.mem_map.mp hy; exact ⟨d, rfl⟩)
        | succ i =>
          cases p with
          | cons r t => exact .cons (Dn.sub hN r) (ih _ i t)
    refine ⟨fun x => Nof c ad os x ∧ x ≠ ad k, ad k, ds, rs, es, ws, fun x z => ok2.nof z.1, fun z => z.2 rfl, h1, (paired_dn h2).sub hN, hj, hset _ _ _ a, hR, fun p H' ws' hp ex hp1 hp2 => ?_⟩
    have h0' := h0.resolve_right (hM _)
    refine q p H' ws' ?_ (fun x o z y => ex x o (ok2.ex x o z y) fun e => ?_) hp1 (hp2.sub fun x z => ?_)
    · rcases hp with z | z
      · rw [z]; exact h0'
      · cases hc : c.H0 p with
        | none => rfl
        | some o => rw [ok2.ex p o hc (hM _)] at z; cases z
    · rw [e, h0'] at z; cases z
    · rcases z with z | z
      · exact Or.inl ⟨Or.inl z, fun e => ok2.nn k ⟨_, hk, rfl⟩ (e ▸ z)⟩
      · exact Or.inr z
end DL
namespace DL
open PySem PySem.Spec PyProof.Rows L2
open Evl (Ex Ex.refl Ex.trans Ex.new)
def absI (i : Int) : Int := if i < 0 then -i else i
theorem ex_abs {w : Bool} {c : Cn} {env : Sy} {os : List SO} {te : TE} {r : List V → Hp → VK → Prop} {i : Int} (hr : r = fun xs H Q => ∃ i, xs = [.int i] ∧ Q (.int (if i < 0 then -i else i)) H) (h : EvX true c env os te (.int i)) : EvX w c env os (tCB r (tCons te tNil)) (.int (absI i)) := fun ad σ H ok Q q => by
  subst hr
  exact h ad σ H ok _ fun v H2 e a => ⟨i, by rw [dn_int a], q _ H2 e (.int _)⟩

/-! ### rfind of a newline; list(range(..)) -/
/-- where the paragraph of the index i begins -/
def bgn (l : List Nat) : Nat → Nat
  | 0 => 0
  | i + 1 => if l[i]? = some 10 then i + 1 else bgn l i
theorem bgn_spec (l : List Nat) : ∀ i, bgn l i ≤ i ∧ (bgn l i = 0 ∨ l[bgn l i - 1]? = some 10) ∧ ∀ j, bgn l i ≤ j → j < i → l[j]? ≠ some 10
  | 0 => ⟨Nat.le_refl _, Or.inl rfl, fun j _ h => by omega⟩
  | i + 1 => by
    obtain ⟨h1, h2, h3⟩ := bgn_spec l i
    unfold bgn
    split
    · rename_i h
      exact ⟨Nat.le_refl _, Or.inr h, fun j _ _ => by omega⟩
    · rename_i h
      refine ⟨by omega, h2, fun j j1 j2 => ?_⟩
      by_cases e : j = i
      · rw [e]; exact h
      · exact h3 j j1 (by omega)
theorem bgn_uniq {l : List Nat} {i b : Nat} (h1 : b ≤ i) (h2 : b = 0 ∨ l[b - 1]? = some 10) (h3 : ∀ j, b ≤ j → j < i → l[j]? ≠ some 10) : bgn l i = b := by
  obtain ⟨g1, g2, g3⟩ := bgn_spec l i
  by_cases a : bgn l i < b
  · rcases h2 with z | z
    · omega
    · exact absurd z (g3 (b - 1) (by omega) (by omega))
  · by_cases a2 : b < bgn l i
    · rcases g2 with z | z
      · omega
      · exact absurd z (h3 (bgn l i - 1) (by omega) (by omega))
    · omega
theorem rfind_bgn (l : List Nat) (i : Nat) (h : i ≤ l.length) : Txt.rfindIn (sT l) ⟨#[10]⟩ 0 (i : Int) = (bgn l i : Int) - 1 := by
  have hx : (sT l).length = l.length := sT_len l
  have hgl : ∀ k : Nat, (sT l).cps[k]? = l[k]? := fun k => by rw [← Array.getElem?_toList, sT_cps]
  have hf : fromIndex (sT l).length 0 = 0 := rfl
  have ht : toIndexW (sT l).length (i : Int) = i := by unfold toIndexW; rw [if_neg (by omega), hx]; omega
  have hat : ∀ v, StrLaws.At (sT l) ⟨#[10]⟩ i v ↔ v < i ∧ l[v]? = some 10 := fun v => by
    have h1 := StrLaws.subAt_one (sT l) 10 v
    rw [Array.getElem?_toList, hgl, hx] at h1
    unfold StrLaws.At
    show v + 1 ≤ i ∧ _ ↔ _
    have h2 : v + (⟨#[10]⟩ : Str).length = v + 1 := rfl
    rw [h2] at h1
    constructor
    · rintro ⟨a, b⟩; exact ⟨a, h1.mp ⟨by omega, b⟩⟩
    · rintro ⟨a, b⟩; exact ⟨a, (h1.mpr b).2⟩
  unfold Txt.rfindIn
  rw [hf, ht, StrLaws.last_eq]
  have key := StrLaws.last_run (sT l) ⟨#[10]⟩ i (List.range' 0 (i + 1 - 0)) [] none (fun _ h => nomatch h) (fun _ h => nomatch h) (by simpa using List.pairwise_lt_range' (s := 0) (n := i + 1 - 0))
  have mem : ∀ v, v < i → v ∈ [] ++ List.range' 0 (i + 1 - 0) := fun v hv => by simp [List.mem_range'] <;> omega
  cases hr : (forIn (List.range' 0 (i + 1 - 0)) none (StrLaws.lastBody (sT l) ⟨#[10]⟩ i)).run with
  | none =>
    rw [hr] at key
    have e : bgn l i = 0 := bgn_uniq (Nat.zero_le _) (Or.inl rfl) fun j _ j2 z => key j (mem j j2) ((hat j).mpr ⟨j2, z⟩)
    rw [e]; rfl
  | some a =>
    rw [hr] at key
    obtain ⟨k1, k2⟩ := key
    obtain ⟨k3, k4⟩ := (hat a).mp k1
    have e : bgn l i = a + 1 := bgn_uniq (by omega) (Or.inr k4) fun j j1 j2 z => k2 j (mem j j2) (by omega) ((hat j).mpr ⟨j2, z⟩)
    rw [e]
    show (a : Int) = _
    omega
theorem ex_rfind {w : Bool} {c : Cn} {env : Sy} {os : List SO} {ta tb te tf : TE} {r : V → List V → Hp → VK → Prop} {l : List Nat} {i : Nat} (hr : r = (fun x xs H Q => ∃ (a b : Str) (i j : Int), x = .str a ∧ xs = [.str b, .int i, .int j] ∧ Q (.int (Txt.rfindIn a b i j)) H)) (ha : EvX true c env os ta (dT l)) (hb : EvX true c env os tb (dT [10])) (h0 : EvX true c env os te (.int 0)) (hi : EvX true c env os tf (.int (i : Int))) (hl : i ≤ l.length) : EvX w c env os (tBM c.K "str" r ta (tCons tb (tCons te (tCons tf tNil)))) (.int ((bgn l i : Int) - 1)) := fun ad σ H ok Q q => by
  subst hr
  refine ha ad σ H ok _ fun v H1 e1 r1 => ⟨by rw [dn_str r1]; rfl, hb ad σ H1 (ok.ext e1) _ fun u H2 e2 r2 => h0 ad σ H2 ((ok.ext e1).ext e2) _ fun z H3 e3 r3 => hi ad σ H3 (((ok.ext e1).ext e2).ext e3) _ fun y H4 e4 r4 => ⟨sT l, sT [10], 0, (i : Int), dn_str r1, by rw [dn_str r2, dn_int r3, dn_int r4], ?_⟩⟩
  rw [show (sT [10]) = (⟨#[10]⟩ : Str) from rfl, rfind_bgn l i hl]
  exact q _ H4 (((e1.trans e2).trans e3).trans e4) (.int _)
/-- the ints lo .. lo + n - 1 -/
def rgI (lo : Int) (n : Nat) : List Int := (List.range n).map fun i : Nat => lo + (i : Int)
theorem ef_listRg1 {c : Cn} {env : Sy} {os : List SO} {te : TE} {n : Nat} (h : EvX true c env os te (.int (n : Int))) (hn : n ≤ 100000) : EvF c env os (tLstRg (tRg1 te)) (.lst (((rgI 0 n).map PyData.int).map SV.i)) := fun ad σ H ok Q q =>
  h ad σ H ok _ fun v H1 e1 r1 => ⟨(n : Int), dn_int r1, RgOk.of_le (by omega) (by omega) (by omega) (by omega), fun p hp => q p _ (e1.free hp) (e1.trans (Ex.new hp)) ⟨_, upd_same, by
    have e : rgV 0 (n : Int) = (rgI 0 n).map V.int := by unfold rgV rgI; rw [List.map_map, show ((n : Int) - 0).toNat = n by omega]; rfl
    rw [e]
    exact dn_paired (DnAll.goF (fun _ _ r => r) _ _ (by
      generalize rgI 0 n = ns
      induction ns with
      | nil => rfl
      | cons a b ih => simpa [noLists, noList] using ih) (ints_dn (K := c.K) (N := fun _ => True) (H := upd H1 p (.lst ((rgI 0 n).map V.int))) _))⟩⟩
theorem ef_listRg2 {c : Cn} {env : Sy} {os : List SO} {ta tb : TE} {lo n : Nat} (h : EvX true c env os ta (.int (lo : Int))) (h2 : EvX true c env os tb (.int ((lo + n : Nat) : Int))) (hn : lo + n ≤ 100000) : EvF c env os (tLstRg (tRg2 ta tb)) (.lst (((rgI (lo : Int) n).map PyData.int).map SV.i)) := fun ad σ H ok Q q =>
  h ad σ H ok _ fun v H1 e1 r1 => h2 ad σ H1 (ok.ext e1) _ fun u H2 e2 r2 => ⟨(lo : Int), ((lo + n : Nat) : Int), dn_int r1, dn_int r2, RgOk.of_le (by omega) (by omega) (by omega) (by omega), fun p hp => q p _ ((e1.trans e2).free hp) ((e1.trans e2).trans (Ex.new hp)) ⟨_, upd_same, by
    have e : rgV (lo : Int) ((lo + n : Nat) : Int) = (rgI (lo : Int) n).map V.int := by unfold rgV rgI; rw [List.map_map, show (((lo + n : Nat) : Int) - (lo : Int)).toNat = n by omega]; rfl
    rw [e]
    exact dn_paired (DnAll.goF (fun _ _ r => r) _ _ (by
      generalize rgI (lo : Int) n = ns
      induction ns with
      | nil => rfl
      | cons a b ih => simpa [noLists, noList] using ih) (ints_dn (K := c.K) (N := fun _ => True) (H := upd H2 p (.lst ((rgI (lo : Int) n).map V.int))) _))⟩⟩
end DL

set_option Elab.async false
set_option linter.all false
set_option maxRecDepth 100000
set_option maxHeartbeats 4000000
/-! The data layer: len(set(xs)) of texts, starred targets. -/
namespace DL
open PySem PySem.Spec PyProof.Rows L2
open Evl (Ex Ex.refl Ex.trans Ex.new)
/-- how many unlike ones stand among the first i -/
def cntD (xs : List Str) : Nat → Nat
  | 0 => 0
  | i + 1 => if xs.getD i Str.empty ∈ xs.take i then cntD xs i else cntD xs i + 1
theorem cntD_le (xs : List Str) : ∀ i, cntD xs i ≤ i
  | 0 => Nat.le_refl _
  | i + 1 => by
    have := cntD_le xs i
    unfold cntD
    split <;> omega
section
variable {prog : Program} {w : World} {A : Around} {R : Result → Shared → Prop} {I S : Addr} {fp wr : List Addr} {G : Array GenState → Array GenState → Prop} {n : Nat} {P : Nat → Value → Prop} {St : Nat → Shared → Prop} {xs : List Str}
theorem setOf_keep {h h' : Heap} {F : Str → Bool} {m : Nat} (r : h.SetOf (strKind prog w) S F m) (k : ∀ o, h.get? S = some o → h'.get? S = some o) : h'.SetOf (strKind prog w) S F m := by
  obtain ⟨o, es, ep, t, ho, z⟩ := r
  exact ⟨o, es, ep, t, k o ho, z⟩
/-- the loop of an update by texts, any number of them -/
theorem strs_update (W : WalksS prog w A.in1 I fp wr G n P St) (hSf : S ∉ fp) (hsz : xs.length = n) (hn : n ≤ 4000) (hval : ∀ i v, P i v → ∃ t, v = .str (xs.getD i Str.empty) t) :
    ∀ (k i : Nat) (s : Shared), n - i = k → i ≤ n → St i s → s.heap.SetOf (strKind prog w) S (fun z => decide (z ∈ xs.take i)) (cntD xs i) →
      (∀ s', Moved (S :: wr) G s s' → s'.heap.SetOf (strKind prog w) S (fun z => decide (z ∈ xs.take n)) (cntD xs n) → R (.ok (.ret .none)) s') →
      codeAny (model prog w) A (.builtin "set.update.loop" ⟨[.ref S, .ref I], []⟩) R s := by
  have up : ∀ b ∈ wr, b ∈ S :: wr := fun b hb => List.mem_cons_of_mem _ hb
  have hSw : S ∉ wr := fun z => hSf (W.sub _ z)
  intro k
  induction k with
  | zero =>
    intro i s hk hi st hS done
    obtain rfl : i = n := by omega
    refine codeAny_builtin PyProof.Rows.F.entry_set_update_loop ?_
    rw [Around.under_plainId PyProof.Rows.F.plain_set_update_loop _]
    show wpAny _ A.in1 (pyNext (.ref I) >>= _) _ _ s
    refine wpAny_bind (W.done s _ _ st fun s' hm => ?_)
    show wpAny _ A.in1 (ret Value.none) _ _ s'
    exact wpAny_pure (done s' (hm.mono up) (setOf_keep hS fun o e => hm.heap S _ hSw e))
  | succ k ih =>
    intro i s hk hi st hS done
    have hlt : i < n := by omega
    refine codeAny_builtin PyProof.Rows.F.entry_set_update_loop ?_
    rw [Around.under_plainId PyProof.Rows.F.plain_set_update_loop _]
    show wpAny _ A.in1 (pyNext (.ref I) >>= _) _ _ s
    refine wpAny_bind (W.item i s _ _ hlt st fun v s' hP st' hm => ?_)
    obtain ⟨t, rfl⟩ := hval i v hP
    have hS1 := setOf_keep hS fun o e => hm.heap S _ hSw e
    show wpAny _ A.in1 (holding [Value.str (xs.getD i Str.empty) t] (setAdd S (.str (xs.getD i Str.empty) t)) >>= _) _ _ s'
    refine wpAny_bind (wpAny_holding ?_)
    unfold setAdd
    refine wpAny_holding (wpAny_bind ((strKind prog w).pyHash (k := xs.getD i Str.empty) (strKind_is _ _ _ _) ?_))
    have room : cntD xs i + 1 < scanBound := by have := cntD_le xs i; unfold scanBound; omega
    refine wpAny_setAddHashed_of (knd := strKind prog w) (s := { s' with toks := s'.toks + 1 }) (strKind_is _ _ _ _) rfl hS1 room fun h' sb hS2 => ?_
    have e1 : xs.take (i + 1) = xs.take i ++ [xs.getD i Str.empty] := by
      rw [List.take_add_one, List.getD_eq_getElem?_getD, List.getElem?_eq_getElem (by omega)]; rfl
    have hS3 : h'.SetOf (strKind prog w) S (fun z => decide (z ∈ xs.take (i + 1))) (cntD xs (i + 1)) := by
      refine SetOf_congr hS2 (fun z => ?_) ?_
      · show (decide (z ∈ xs.take i) || decide (z = xs.getD i Str.empty)) = decide (z ∈ xs.take (i + 1))
        rw [e1, ← Bool.decide_or]
        exact decide_eq_decide.mpr (by simp)
      · show (if decide (xs.getD i Str.empty ∈ xs.take i) = true then cntD xs i else cntD xs i + 1) = if xs.getD i Str.empty ∈ xs.take i then cntD xs i else cntD xs i + 1
        by_cases z : xs.getD i Str.empty ∈ xs.take i
        · rw [if_pos z, if_pos (decide_eq_true z)]
        · rw [if_neg z, if_neg (by simpa using z)]
    refine wpAny_pure ⟨plainId_quiet PyProof.Rows.F.plain_set_update_loop _, ih (i + 1) _ (by omega) hlt (W.frame _ s' _ _ st' (Nat.le_succ _) fun b hb o e => ?_) hS3 fun s'' hm'' hS'' => ?_⟩
    · rw [sb.2 b (fun z : b = S => hSf (z ▸ hb))]; exact e
    · refine done s'' (Moved.trans W.gtrans ((hm.mono up).then_heap (Nat.le_succ _) fun b o hb e => ?_) hm'') hS''
      rw [sb.2 b (fun z : b = S => hb (by rw [z]; exact List.mem_cons_self))]; exact e
end

section
variable {prog : Program} {w : World} {A : Around} {E : Value → Shared → Prop} {s : Shared}
set_option maxHeartbeats 3200000 in
/-- set(xs), a list of texts -/
theorem call_setS {l : Addr} {items : Array Value} {xs : List Str} {Q : Value → Shared → Prop} (hh : A.handled = none) (hl : s.heap.IsList l items) (hi : StrsAre items.toList xs) (hn : xs.length ≤ 4000)
    (h : ∀ (h' : Heap) (tk : Nat), h'.SetOf (strKind prog w) s.heap.objs.size (fun z => decide (z ∈ xs)) (cntD xs xs.length) → (∀ b o, b < s.heap.objs.size → s.heap.get? b = some o → h'.get? b = some o) → Q (.ref s.heap.objs.size) { s with heap := h', toks := tk }) :
    wpAny (model prog w) A (call (.type "set") [.ref l]) Q E s := by
  have hsz : xs.length = items.size := by rw [← StrsAre.len_eq hi, Array.length_toList]
  obtain ⟨c, tl, hmro⟩ := F.called_set.mro
  have hmade := F.called_set.made
  have hsub := F.called_set.sub
  have hnt := F.called_set.notType
  have hcan := F.called_set.canCreate
  have hct := F.typeCall_set_1 (.ref l)
  refine wpAny_call (codeAny_of_tree ?_)
  show wpAny _ _ (callAny (.type "set") _) _ _ _
  refine wpAny_pure ⟨Code.quiet_builtin _ (by decide +kernel), codeAny_builtin F.entry_type_call ?_⟩
  rw [Around.under_plain (weight_type_call_type "set" [.ref l] []) rfl]
  repeat (any_goals (first | assumption | wp_step))
  refine codeAny_mono (code_set_new_1 (.ref l) (E := E) (Q₁ := fun obj s₁ => ∃ b : Bool, obj = .ref s.heap.objs.size ∧ s₁ = { s with heap := s.heap.push { cls := .type "set", dict := none, data := .set #[] 0 (.fresh 0 0 b) } }) fun b => ⟨b, rfl, rfl⟩) fun r s₁ hr => ?_
  cases r with
  | error e => exact hr
  | ok fl =>
    cases fl with
    | ret obj =>
      obtain ⟨b, rfl, rfl⟩ := hr
      obtain ⟨a, ha⟩ : ∃ a, s.heap.objs.size = a := ⟨_, rfl⟩
      have hS : (s.heap.push { cls := .type "set", dict := none, data := .set #[] 0 (.fresh 0 0 b) }).get? s.heap.objs.size = some { cls := .type "set", dict := none, data := .set #[] 0 (.fresh 0 0 b) } := Heap.get?_push_size _ rfl
      have hT : Shared.TypeIs { s with heap := s.heap.push { cls := .type "set", dict := none, data := .set #[] 0 (.fresh 0 0 b) } } (.ref s.heap.objs.size) "set" := ⟨_, hS, rfl⟩
      have hli := F.called_set.init.lookup
      have hbi := F.called_set.init.bind (.ref s.heap.objs.size)
      repeat (any_goals (first | assumption | wp_step))
      refine codeAny_mono (codeAny_call_builtin (R := wants (fun r s₂ => r = .none ∧ ∃ h' tk, s₂ = { s with heap := h', toks := tk } ∧ h'.SetOf (strKind prog w) s.heap.objs.size (fun z => decide (z ∈ xs)) (cntD xs xs.length) ∧ (∀ b o, b < s.heap.objs.size → s.heap.get? b = some o → h'.get? b = some o)) E) F.called_set.init.plain F.entry_set_init (check_set_init_1 hT ?_)) fun r₂ s₂ hr₂ => ?_
      · obtain ⟨ol, hol, hcl, nl, hdl⟩ := hl
        obtain ⟨oc, od, dt, sl⟩ := ol
        simp only at hcl hdl
        subst hcl hdl
        have hol' : (s.heap.push { cls := .type "set", dict := none, data := .set #[] 0 (.fresh 0 0 b) }).get? l = some { cls := .type "list", dict := od, data := .seq items nl, slots := sl } := Heap.get?_push_of_some _ hol
        have hsls := F.sub_list_set
        have hslf := F.sub_list_frozenset
        have hne : (Value.type "list" == Value.type "dict") = false := by decide
        have hl1 : (s.heap.push { cls := .type "set", dict := none, data := .set #[] 0 (.fresh 0 0 b) }).IsList l items := ⟨_, hol', rfl, nl, rfl⟩
        unfold Builtin.«set.__init__» noKeywords Builtin.Frozenset.updateFrom
        generalize hPI : pyIter = PI
        wp_walk
        subst hPI
        refine wpAny_pyIter_list hl1 ?_
        refine wpAny_bind (wpAny_runValue ?_)
        have hlS : l < s.heap.objs.size := Heap.lt_size hol
        have hh3 : A.in1.in1.in1.handled = none := by simp [hh]
        have hsz1 : (s.heap.push { cls := .type "set", dict := none, data := .set #[] 0 (.fresh 0 0 b) }).objs.size = s.heap.objs.size + 1 := Heap.size_push ..
        have hneI : l ≠ (s.heap.push { cls := .type "set", dict := none, data := .set #[] 0 (.fresh 0 0 b) }).objs.size := by rw [hsz1]; exact Nat.ne_of_lt (Nat.lt_succ_of_lt hlS)
        have hSf : s.heap.objs.size ∉ [(s.heap.push { cls := .type "set", dict := none, data := .set #[] 0 (.fresh 0 0 b) }).objs.size, l] := by
          rw [hsz1]
          intro z
          rcases List.mem_cons.mp z with z | z
          · exact absurd z (Nat.ne_of_lt (Nat.lt_succ_self _))
          · exact absurd (List.mem_singleton.mp z) (Nat.ne_of_gt hlS)
        refine strs_update (xs := xs) ((Walks.list hh3 _ l hneI items).toS) hSf hsz (by omega) (fun i v hv => SS.strs_at hi i v (by rw [Array.getElem?_toList]; exact hv)) (items.size - 0) 0 _ (by omega) (Nat.zero_le _) ⟨⟨_, Heap.get?_push_size _ rfl, rfl, rfl⟩, (hl1.push _)⟩ ?hS0 ?hR
        case hS0 => exact SetOf_congr ((setObjOf_fresh (knd := strKind prog w) b).setOf (Heap.get?_push_of_some _ hS) (by unfold scanBound; omega)) (fun z => by simp) rfl
        case hR =>
          intro s' hm hS'
          obtain ⟨h', g', d', tk', os'⟩ := s'
          have eg : g' = s.gens := hm.gens
          have ed : d' = s.drawn := hm.drawn
          have eo : os' = s.os := hm.os
          subst eg ed eo
          rw [← hsz, List.take_length] at hS'
          show wpAny _ _ _ _ _ _
          refine wpAny_pure ?_
          show wpAny _ _ (ret Value.none) _ _ _
          refine wpAny_pure ⟨rfl, h', tk', rfl, hS', fun b2 o hb e => hm.heap b2 o (fun z => ?_) (Heap.get?_push_of_some _ (Heap.get?_push_of_some _ e))⟩
          rw [hsz1] at z
          rcases List.mem_cons.mp z with z | z
          · exact absurd z (Nat.ne_of_lt hb)
          · exact absurd (List.mem_singleton.mp z) (Nat.ne_of_lt (Nat.lt_succ_of_lt hb))
      · cases r₂ with
        | error e => exact hr₂
        | ok fl₂ =>
          cases fl₂ with
          | ret r =>
            obtain ⟨rfl, h', tk, rfl, hS', hk'⟩ := hr₂
            repeat (any_goals (first | assumption | wp_step))
            exact h _ _ hS' hk'
          | _ => exact hr₂.elim
    | _ => exact hr.elim
end
/-- len(set(xs)), xs a list of texts -/
def tLenS (K : PySem.W.Frag) (ta : TE) : TE := fun σ H Q => ta σ H fun x H1 => ∃ (l : Addr) (xs : List Str), x = .ref l ∧ SqL K H1 l (xs.map V.str) ∧ xs.length ≤ 4000 ∧ Q (.int (cntD xs xs.length : Nat)) H1
theorem pe_lenS {X : Cx} {K : PySem.W.Frag} {a : Expr} {ta : TE} {p p2 q pos : Pos} (hg : Gl X "len") (hm : X.mg "len" = none) (hg2 : Gl X "set") (hm2 : X.mg "set" = none) (ha : PE X a ta) (hc : X.calm = true := by rfl) (hk : X.K = K := by rfl)
    (na : starEach [a] X.env = (false, eval a X.env) :: starEach [] X.env := by rfl) : PE X (.Call (.Name "len" p) [.Call (.Name "set" p2) [a] [] q] [] pos) (tLenS K ta) := by
  subst hk
  refine ⟨fun pins s σ H Q I h => ?_⟩
  refine Call_ (ld_blt I hg hm boot_len ?_)
  refine PyProof.Rows.callWith_builtin1 (PyProof.Rows.args_cons ?_ rfl) rfl rfl
  refine Call_ (ld_blt I hg2 hm2 boot_set ?_)
  refine PyProof.Rows.callWith_type1 (PyProof.Rows.args_cons (thn (ha.run pins s σ H _ I h) fun v s1 ⟨x, H1, I1, r1, q1⟩ => PyProof.Rows.args_nil ?_) na) na rfl
  obtain ⟨l, xs, rfl, hq, hn, q1⟩ := q1
  cases r1
  obtain ⟨its, r, pl, hz⟩ := I1.list hq
  refine call_setS (I1.ok.hd hc) pl.isList (by simpa using L2.strsAre_of r) hn fun h' tk hS hk => ?_
  refine PyProof.Rows.args_nil ?_
  have hle := cntD_le xs xs.length
  obtain ⟨o, es, ep, t, ho, hex, hd, _, _, _, hf, hn2⟩ := hS
  have I2 : Inv X pins σ H1 { s1 with heap := h', toks := tk } := I1.kept fun b o e => hk b o (Heap.lt_size e) e
  exact call_len_set ho hex hd hf (by rw [hn2] <;> omega) ⟨.int (cntD xs xs.length : Nat), H1, I2.tok _, ⟨_, by rw [hn2]⟩, q1⟩

/-! ### (a, *b) = a list -/
theorem shiftW {prog : Program} {w : World} {A : Around} {I : Addr} {fp wr : List Addr} {G : Array GenState → Array GenState → Prop} {n : Nat} {P : Nat → Value → Prop} {St : Nat → Shared → Prop} (W : WalksS prog w A I fp wr G (n + 1) P St) : WalksS prog w A I fp wr G n (fun i => P (i + 1)) (fun i => St (i + 1)) where
  sub := W.sub
  grefl := W.grefl
  gtrans := W.gtrans
  frame := fun i => W.frame (i + 1)
  item := fun i s Q E hi st hQ => W.item (i + 1) s Q E (by omega) st hQ
  done := fun s Q E st hQ => W.done s Q E st hQ
  self := fun i s Q E st hQ => W.self (i + 1) s Q E st hQ
section
variable {prog : Program} {w : World} {A : Around} {E : Value → Shared → Prop} {s : Shared}
theorem unpack_star {l : Addr} {x : Value} {rest : List Value} {Q : List Value → Shared → Prop} (hh : A.handled = none) (hl : s.heap.IsList l (x :: rest).toArray) (hz : rest.length ≤ sizeLine)
    (hQ : ∀ (h' : Heap) (tk : Nat), (∀ b o, s.heap.get? b = some o → h'.get? b = some o) → Q [x, .ref h'.objs.size] { s with heap := h'.push { cls := .type "list", data := .seq rest.toArray }, toks := tk }) :
    wpAny (model prog w) A (unpackItems (.ref l) 2 (some 1)) Q E s := by
  have hlt : l ≠ s.heap.objs.size := by obtain ⟨o, ho, _⟩ := hl; exact Nat.ne_of_lt (Heap.lt_size ho)
  unfold unpackItems
  refine wpAny_bind ?_
  unfold notIterableAtAll
  refine wpAny_bind (wpAny_specialOf hl.typeIs slot_list_iter.lookup ?_)
  refine wpAny_pure ?_
  simp only [Bool.false_eq_true, if_false]
  refine wpAny_bind (wpAny_holding (wpAny_pyIter_list hl ?_))
  refine wpAny_bind (wpAny_holding (PySem.W.kun_draw hlt 1 0 _ _ ⟨_, Heap.get?_push_size _ rfl, rfl, rfl⟩ (hl.push _) (by simp) fun h₁ hit₁ hs₁ => ?_))
  have e1 : List.take 1 (List.drop 0 (x :: rest).toArray.toList) = [x] := rfl
  rw [e1]
  rw [if_neg (by simp)]
  have hl₁ : h₁.IsList l (x :: rest).toArray := (hl.push _).extBut hs₁.extBut hlt
  have hsz : (x :: rest).toArray.size = rest.length + 1 := by simp
  have W := (Walks.list (prog := prog) (w := w) (A := A.in1) hh s.heap.objs.size l hlt (x :: rest).toArray).toS
  rw [hsz] at W
  have lt1 : ∀ b ∈ [s.heap.objs.size, l], b < h₁.objs.size := fun b hb => by
    rcases List.mem_cons.mp hb with z | z
    · subst z; obtain ⟨o, ho, _⟩ := hit₁; exact Heap.lt_size ho
    · rw [List.mem_singleton.mp z]; obtain ⟨o, ho, _⟩ := hl₁; exact Heap.lt_size ho
  refine wpAny_bind (wpAny_holding (wpAny_collect_iter (T := "list_iterator") (.inr (.inr (.inl rfl))) (shiftW W) (fun i s' st => st.1.typeIs) ⟨hit₁, hl₁⟩ lt1 (List.mem_cons_self ..) (fun s' acc hm hi => ?_) hz))
  obtain ⟨h', g', d', tk', os'⟩ := s'
  have eg : g' = s.gens := hm.gens
  have ed : d' = s.drawn := hm.drawn
  have eo : os' = s.os := hm.os
  subst eg ed eo
  have eacc : acc.toList = rest := by
    have hlen : acc.toList.length = rest.length := by rw [Array.length_toList]; exact hi.1
    refine List.ext_getElem? fun j => ?_
    by_cases hj : j < rest.length
    · obtain ⟨v, hv⟩ : ∃ v, acc[j]? = some v := ⟨acc[j]'(by rw [hi.1]; exact hj), Array.getElem?_eq_getElem (by rw [hi.1]; exact hj)⟩
      have h2 := hi.2 j v hv
      simp at h2
      rw [Array.getElem?_toList, hv, h2]
    · rw [List.getElem?_eq_none (by omega), List.getElem?_eq_none (by omega)]
  have ha : ¬ acc.toList.length < 2 - 1 - 1 := by omega
  rw [if_neg ha, eacc]
  have et : List.take (rest.length - (2 - 1 - 1)) rest = rest := by simp
  have ed2 : List.drop (rest.length - (2 - 1 - 1)) rest = [] := by simp
  rw [et, ed2]
  refine wpAny_bind (wpAny_newList ?_ hz)
  refine wpAny_pure (hQ h' tk' fun b o hb => hm.heap b o (fun z => Nat.lt_irrefl _ (List.mem_singleton.mp z ▸ Heap.lt_size hb)) ?_)
  exact hs₁.extBut b o (Nat.ne_of_lt (Heap.lt_size hb)) (Heap.get?_push_of_some _ hb)
end
/-- a, *b = a list: b a new list -/
def gStar (K : PySem.W.Frag) (t : TGs) : TG := fun v σ H Q => ∃ a x xs, v = .ref a ∧ SqL K H a (x :: xs) ∧ ∀ p, H p = none → t [x, .ref p] σ (upd H p (.lst xs)) Q
theorem pg_star {X : Cx} {K : PySem.W.Frag} {pos sp : Pos} {e1 e2 : Expr} {k : Nat} {t : TGs} (h : PGs X [e1, e2] t) (hst : assignEach [e1, .Starred e2 sp] X.env = [(false, assign e1 X.env), (true, assign e2 X.env)] := by rfl) (hs2 : assignEach [e1, e2] X.env = [(false, assign e1 X.env), (false, assign e2 X.env)] := by rfl) (hc : X.calm = true := by rfl) (hk : X.K = K := by rfl) :
    PG X (.Tuple [e1, .Starred e2 sp] k pos) (gStar K t) := by
  subst hk
  refine ⟨fun pins s σ H v u Q I r hw => ?_⟩
  obtain ⟨a, x, xs, e, hq, hw⟩ := hw
  subst e
  cases r
  obtain ⟨its, rv, pl, hz⟩ := I.list hq
  cases rv with
  | @cons _ y _ ys r0 rt =>
  have hl' : s.heap.IsList a (y :: ys).toArray := pl.isList
  rw [PyProof.Rows.assign_Tuple, hst]
  refine wpAny_bind (wpAny_standAt ?_)
  unfold unpack
  have hle : ys.length ≤ sizeLine := by
    have h1 := rt.length
    rw [List.length_cons] at hz
    omega
  refine wpAny_bind (wpAny_holding (unpack_star (I.ok.hd hc) hl' hle fun h' tk hk => ?_))
  have I1 : Inv X pins σ H { s with heap := h', toks := tk } := I.kept (t' := tk) hk
  have I2 : Inv X pins σ (upd H h'.objs.size (.lst xs)) { s with heap := h'.push { cls := .type "list", data := .seq ys.toArray }, toks := tk } := I1.lnew (its := ys) (t' := tk) rt (by rw [rt.length]; exact hle)
  have := h.run pins _ σ (upd H h'.objs.size (.lst xs)) [x, .ref h'.objs.size] [y, .ref h'.objs.size] Q I2 (.cons r0 (.cons rfl .nil)) (hw _ (I1.hok.fresh (Nat.le_refl _)))
  rw [hs2] at this
  exact this
end DL

set_option Elab.async false
set_option linter.all false
set_option maxRecDepth 100000
set_option maxHeartbeats 2000000
/-! The data layer: what is drawn within tests, targets, loops, displays and comprehensions; tuple(..), signs in order, a starred target. -/
namespace DL
open PySem PySem.Spec PyProof.Rows L2
open Evl (Ex Ex.refl Ex.trans Ex.new)
/-- a statement that is never reached -/
theorem ps_never {X : Cx} {st : Stmt} : PS X st (fun _ _ _ => False) := ⟨fun _ _ _ _ _ _ h => h.elim⟩
theorem kTupleOf {X : Cx} {K : PySem.W.Frag} (h : X.K = K := by rfl) : CallR X (.type "tuple") (fun xs H Q => ∃ p ys, xs = [.ref p] ∧ ((SqL K H p ys ∧ ∀ l, H l = none → Q (.ref l) (upd H l (.tup ys))) ∨ (SqT K H p ys ∧ Q (.ref p) H))) := by subst h; exact call_tuple_of
section
variable {w : Bool} {c : Cn} {env env' : Sy} {os : List SO} {te ta tb tc tl td ty to : TE} {tr : TA} {u : TS} {D : Ends} {g : TG} {P PA PB : PyData → Prop} {d : PyData}
theorem fresh0 {ad : Nat → Addr} {σ : L2.St} {H : Hp} {p : Addr} (ok : Ok c ad env os σ H) (hp : H p = none) : c.H0 p = none ∨ c.M p := by
  by_cases hm : c.M p
  · exact Or.inr hm
  · refine Or.inl ?_
    cases hz : c.H0 p with
    | none => rfl
    | some o => rw [ok.ex p o hz hm] at hp; cases hp
theorem EvF.is2 {o o' : SO} (h : EvF c env os te o) (e : o = o') : EvF c env os te o' := e ▸ h
/-- text not in a list of texts -/
theorem ex_notinLt {l : List Nat} {ls : List (List Nat)} (ha : EvX true c env os ta (dT l)) (hb : EvI c env os tb ((ls.map dT).map SV.i)) : EvX w c env os (tOp (rIn c.K true) ta tb) (.bool (!decide (l ∈ ls))) := fun ad σ H ok Q q =>
  ha ad σ H ok _ fun v H1 e1 r1 => hb ad σ H1 (ok.ext e1) _ fun p vs H2 e2 hs pv => by
    rw [txs_of (paired_dn pv)] at hs
    refine ⟨p, txV ls, rfl, Or.inl hs, by rw [dn_str r1]; rfl, txV_flat ls, ?_⟩
    rw [dn_str r1]
    show Q (.bl (!inV (.str (sT l)) (txV ls))) H2
    rw [inV_txV]
    exact q _ H2 (e1.trans e2) (.bl _)
/-- tuple(a list) -/
theorem ex_tupleOf {r : List V → Hp → VK → Prop} {ds : List PyData} (hr : r = (fun xs H Q => ∃ p ys, xs = [.ref p] ∧ ((SqL c.K H p ys ∧ ∀ l, H l = none → Q (.ref l) (upd H l (.tup ys))) ∨ (SqT c.K H p ys ∧ Q (.ref p) H)))) (h : EvI c env os te (ds.map SV.i)) : EvX w c env os (tCB r (tCons te tNil)) (.tuple ds) := EvX.weak fun ad σ H ok Q q => by
  subst hr
  refine h ad σ H ok _ fun p vs H2 e hs pv => ⟨p, vs, rfl, Or.inl ⟨hs, fun l hl => q _ _ (e.trans (Ex.new hl)) ?_⟩⟩
  rw [Nw_false]
  exact .tup (SqT.of upd_same) ((paired_dn pv).ext (Ex.new hl))
/-- a <= x <= b of signs -/
theorem ex_chainS {r r' : R2} {lo x hi : Nat} (hr : r = (fun x y H Q => ∃ i j : Str, x = .str i ∧ y = .str j ∧ Q (.bl (!decide (j.cps.toList < i.cps.toList))) H)) (hr' : r' = r) (ha : EvX true c env os ta (dT [lo])) (hb : EvX true c env os tb (dT [x])) (hc : EvX true c env os tc (dT [hi])) :
    EvX w c env os (tChain r r' ta tb tc) (.bool (decide (lo ≤ x) && decide (x ≤ hi))) := fun ad σ H ok Q q => by
  subst hr hr'
  have key : ∀ a b : Nat, (!decide ((sT [b]).cps.toList < (sT [a]).cps.toList)) = decide (a ≤ b) := fun a b => by
    rw [sT_cps, sT_cps]
    have e : ([b] < [a]) ↔ b < a := by
      rw [List.cons_lt_cons_iff]
      simp
    rw [decide_eq_decide.mpr e, ← decide_not]
    exact decide_eq_decide.mpr Nat.not_lt
  refine ha ad σ H ok _ fun v H1 e1 r1 => hb ad σ H1 (ok.ext e1) _ fun u H2 e2 r2 => ⟨_, _, dn_str r1, dn_str r2, _, rfl, ?_⟩
  rw [key]
  cases hf : decide (lo ≤ x) with
  | true =>
    rw [if_pos rfl]
    exact hc ad σ H2 ((ok.ext e1).ext e2) _ fun z H3 e3 r3 => ⟨_, _, dn_str r2, dn_str r3, q _ H3 ((e1.trans e2).trans e3) (by rw [key, hf, Bool.true_and]; exact .bl _)⟩
  | false =>
    rw [if_neg (by decide)]
    exact q _ H2 (e1.trans e2) (by rw [hf, Bool.false_and]; exact .bl _)
theorem cntD_nodup {xs : List Str} (h : xs.Nodup) : ∀ i, i ≤ xs.length → cntD xs i = i
  | 0, _ => rfl
  | i + 1, hi => by
    have hlt : i < xs.length := hi
    show (if xs.getD i Str.empty ∈ xs.take i then cntD xs i else cntD xs i + 1) = i + 1
    rw [if_neg, cntD_nodup h i (by omega)]
    intro hm
    rw [List.getD_eq_getElem?_getD, List.getElem?_eq_getElem hlt] at hm
    obtain ⟨j, hj, e⟩ := List.mem_iff_getElem.mp hm
    rw [List.length_take] at hj
    rw [List.getElem_take] at e
    have := (List.getElem_inj h).mp e
    omega
/-- len(set(xs)) of different texts -/
theorem ex_lenSet {xs : List Str} (h : EvI c env os te ((xs.map PyData.str).map SV.i)) (hn : xs.Nodup) (hz : xs.length ≤ 4000) : EvX w c env os (tLenS c.K te) (.int (xs.length : Int)) := fun ad σ H ok Q q => by
  refine h ad σ H ok _ fun p vs H2 e hs pv => ⟨p, xs, rfl, ?_, hz, ?_⟩
  · have ev : vs = xs.map V.str := by
      have pd := paired_dn pv
      clear hs q h hn hz pv
      induction xs generalizing vs with
      | nil => cases pd; rfl
      | cons x xs ih =>
        cases pd with
        | cons a b => rw [dn_str a, ih _ b]; rfl
    rw [← ev]; exact hs
  · rw [cntD_nodup hn _ (Nat.le_refl _)]
    exact q _ H2 e (.int _)
/-- d[k], d a new dict -/
theorem ex_dgetF {kvs : List (Key × SV)} {kk : Key} (hl : EvF c env os td (.dK kvs)) (hi : EvX true c env os ty (kdat kk)) (hg : getA kvs kk = some (.i d)) : EvX w c env os (tDGet td ty) d := EvX.weak fun ad σ H ok Q q =>
  hl ad σ H ok _ fun p H1 hp e1 r1 => hi ad σ H1 (ok.ext e1) _ fun v H2 e2 r2 => by
    obtain ⟨ws, hws, pw⟩ := r1
    rcases val_get (F := SvOk c.K (fun a => Nof c ad os a ∨ a = p) ad os.length H1) pw kk with ⟨_, b⟩ | ⟨x, s, a, b, f⟩
    · rw [hg] at b; cases b
    · rw [hg] at b; cases b
      exact ⟨p, x, rfl, by rw [dn_key r2, ← a]; exact DGet.k (e2 _ _ hws), q x H2 (e1.trans e2) (by rw [Nw_false]; exact Dn.ext e2 (Dn.sub (fun a z => Or.inl z) (show Dn _ _ _ _ _ from f)))⟩
/-- a, *b = a list -/
theorem gs_asgStar {i j : Nat} {ds : List PyData} (h : EvI c env os te ((d :: ds).map SV.i)) (k : Go c ((env.set i (some (.i d))).set j (some (.r os.length))) (os ++ [.lst (ds.map SV.i)]) u D) : Go c env os (tSeq (tAsg te (gStar c.K (gCons (gName i) (gCons (gName j) gNil)))) u) D := fun ad σ H ok =>
  h ad σ H ok _ fun p vs H2 e hs pv => by
    cases pv with
    | @cons v _ ws _ a b =>
      refine ⟨p, v, ws, rfl, hs, fun l hl => ⟨v, [.ref l], rfl, ⟨.ref l, [], rfl, rfl, ?_⟩⟩⟩
      have ok2 := ok.ext e
      have ok3 := (ok2.set (i := i) a).new (o := .lst (ds.map SV.i)) hl (Ex.new (o := .lst ws) hl) (fresh0 ok2 hl) ⟨ws, upd_same, Paired.imp b fun _ _ z => ?_⟩
      · exact k _ _ _ (ok3.set (i := j) (v := .ref l) (s := .r os.length) ⟨congrArg V.ref adN_same.symm, by simp⟩)
      · cases ‹SV› with
        | i d => exact (Dn.add hl z).ext (Ex.new hl)
        | ob C m => exact (ObOk.add hl z).ext (Ex.new hl)
        | t x => exact SvOk.ext (Ex.new hl) z
        | r k => exact z
/-- xs + ys, a list of the store and a new one -/
theorem ef_catOF {k : Nat} {ss us : List SV} (ha : EvR c env os ta k) (hk : os[k]? = some (.lst ss)) (hb : EvF c env os tb (.lst us)) (hl : ss.length + us.length ≤ 100000) : EvF c env os (tOp rCat ta tb) (.lst (ss ++ us)) := fun ad σ H ok Q q =>
  ha.2 ad σ H ok _ fun H1 e1 => hb ad σ H1 (ok.ext e1) _ fun b H2 pb e2 r2 => by
    have ok2 := (ok.ext e1).ext e2
    obtain ⟨_, xs, s1, r1⟩ := ok2.obj k _ hk rfl
    obtain ⟨ys, s2, r2⟩ := r2
    refine ⟨ad k, b, xs, ys, rfl, rfl, s1, s2, ?_, fun p hp => q p _ ((e1.trans e2).free hp) ((e1.trans e2).trans (Ex.new hp)) ⟨xs ++ ys, upd_same, ?_⟩⟩
    · rw [Paired.length r1, Paired.length r2]; exact Nat.le_trans hl (by decide)
    · exact Paired.imp (paired_app r1 (Paired.imp r2 fun _ _ z => z.sub fun a y => Or.inl y)) fun v s z => by
        cases s with
        | i d => exact (Dn.add hp z).ext (Ex.new hp)
        | t o => obtain ⟨b, e1, e2⟩ := z; exact ⟨b, e1, Ex.new hp _ _ e2.1, e2.2⟩
        | ob C m => exact (ObOk.add hp z).ext (Ex.new hp)
        | r k => exact z
/-! ### what is drawn -/
theorem gs_asgMT (h : EvM c env os te P) (k : ∀ d, P d → ∃ env' js, Tg c env os g (.i d) env' js ∧ Go c env' os u D) : Go c env os (tSeq (tAsg te g) u) D := fun ad σ H ok =>
  h ad σ H ok _ fun v H2 d p ok2 r => by
    obtain ⟨env', js, ht, hk⟩ := k d p
    exact ht ad σ H2 v ok2 r _ fun σ2 ok3 _ => hk ad σ2 H2 ok3
theorem gs_asgMF {i : Nat} {PP : List PyData → Prop} (h : EvAM c env os tr PP) (hl : ∀ ds, PP ds → ds.length ≤ 100000) (k : ∀ ds, PP ds → Go c (env.set i (some (.r os.length))) (os ++ [.lst (ds.map SV.i)]) u D) : Go c env os (tSeq (tAsg (tLst tr) (gName i)) u) D := fun ad σ H ok =>
  h ad σ H ok _ fun vs H2 ds p ok2 r => ⟨Nat.le_trans (by rw [r.length]; exact hl ds p) (by decide), fun l hl => by
    have ok3 := ok2.new (o := .lst (ds.map SV.i)) hl (Ex.new (o := .lst vs) hl) (fresh0 ok2 hl) ⟨vs, upd_same, dn_paired (DnAll.ext (Ex.new hl) (DnAll.add hl r))⟩
    exact k ds p _ _ _ (ok3.set (i := i) (v := .ref l) (s := .r os.length) ⟨congrArg V.ref adN_same.symm, by simp⟩)⟩
def EvTM (c : Cn) (env : Sy) (os : List SO) (tt : TT) (PB : Bool → Prop) : Prop := ∀ ad σ H, Ok c ad env os σ H → ∀ Q : Bool → Hp → Prop, (∀ b H2, PB b → Ok c ad env os σ H2 → Q b H2) → tt σ H Q
theorem etm_test {PB : Bool → Prop} (h : EvM c env os te (fun d => ∃ b, d = .bool b ∧ PB b)) : EvTM c env os (tTest te) PB := fun ad σ H ok Q q => h ad σ H ok _ fun v H2 d p ok2 r => by
  obtain ⟨b, rfl, hb⟩ := p
  exact ⟨b, dn_bool r, q b H2 hb ok2⟩
theorem gs_ifM {tt : TT} {t v : TS} {PB : Bool → Prop} (h : EvTM c env os tt PB) (h1 : PB true → Go c env os t { D with nx := u D }) (h2 : PB false → Go c env os v { D with nx := u D }) : Go c env os (tSeq (tIfS tt t v) u) D := fun ad σ H ok =>
  h ad σ H ok _ fun b H2 p ok2 => by
    cases b with
    | true => exact h1 p ad σ H2 ok2
    | false => exact h2 p ad σ H2 ok2
/-- .. with what both ways lead to -/
theorem gs_ifMJ {α : Type} {tt : TT} {t v : TS} {PB : Bool → Prop} (PA : α → Prop) (E : α → Sy) (O : α → List SO) (h : EvTM c env os tt PB) (k : ∀ a, PA a → Go c (E a) (O a) u D)
    (h1 : PB true → (∀ a, PA a → Go c (E a) (O a) u D) → Go c env os t { D with nx := u D }) (h2 : PB false → (∀ a, PA a → Go c (E a) (O a) u D) → Go c env os v { D with nx := u D }) : Go c env os (tSeq (tIfS tt t v) u) D := gs_ifM h (fun p => h1 p k) (fun p => h2 p k)
theorem gs_ifJA {α : Type} {tt : TT} {t v : TS} {b : Bool} (PA : α → Prop) (E : α → Sy) (O : α → List SO) (h : EvT c env os tt b) (k : ∀ a, PA a → Go c (E a) (O a) u D)
    (h1 : b = true → (∀ a, PA a → Go c (E a) (O a) u D) → Go c env os t { D with nx := u D }) (h2 : b = false → (∀ a, PA a → Go c (E a) (O a) u D) → Go c env os v { D with nx := u D }) : Go c env os (tSeq (tIfS tt t v) u) D := gs_if h (fun p => h1 p k) (fun p => h2 p k)
def EvWM (c : Cn) (env : Sy) (os : List SO) (wi : TI) (PN : Nat → Prop) (it : Nat → SV) (G : List SO → Prop) : Prop := ∀ ad σ H, Ok c ad env os σ H → ∀ R : It → Hp → Prop,
  (∀ n J H1 fr, PN n → Ok (c.w fr os.length) ad env os σ H1 → (∀ ad' env' os' σ' H', Ok (c.w fr os.length) ad' env' os' σ' H' → Ok c ad' env' os' σ' H') → WalkD (c.w fr os.length) J n it G → R J H1) → wi σ H R
theorem ewm {wi : TI} {n : Nat} {it : Nat → SV} {G : List SO → Prop} {PN : Nat → Prop} (h : EvW c env os wi n it G) (hn : PN n) : EvWM c env os wi PN it G := fun ad σ H ok R q => h ad σ H ok R fun J H1 fr _ ok1 up W => q n J H1 fr hn ok1 up W
theorem ewm_range1 {PN : Nat → Prop} (h : EvM c env os te (fun d => ∃ n : Int, d = .int n ∧ -1000000000000 ≤ n ∧ n ≤ 1000000000000 ∧ PN n.toNat)) : EvWM c env os (iRng1 (tCons te tNil)) PN (fun i => .i (.int (i : Int))) (fun _ => True) := fun ad σ H ok R q =>
  h ad σ H ok _ fun v H1 d p ok1 r => by
    obtain ⟨n, rfl, h1, h2, hn⟩ := p
    cases dn_int r
    refine ⟨n, rfl, by omega, by omega, q _ _ H1 c.fr hn ok1.pin0 (up_pin0 ok1) ⟨fun i ad' env' os' σ' H' hi o _ => hi, fun ad' env' os' σ' H' o _ => Nat.le_refl _, fun i ad' env' os' σ' H' x H'' hi o _ y => ?_⟩⟩
    obtain ⟨rfl, rfl⟩ := y
    refine ⟨Ex.refl _, ?_⟩
    rw [Int.zero_add]
    exact Dn.int _
def OkI (c : Cn) (J : Sy → List SO → Prop) : L2.St → Hp → Prop := fun σ H => ∃ e o, J e o ∧ OkE c e o σ H
/-- a for whose slots and store are known by what holds of them -/
theorem gs_forN {wi : TI} {it : Nat → SV} {G : List SO → Prop} {tb : TS} (PN : Nat → Prop) (I : Nat → Sy → List SO → Prop) (hw : EvWM c env os wi PN it G)
    (h0 : I 0 env os) (hG : ∀ i e o, I i e o → G o)
    (hs : ∀ fr, Up c (c.w fr os.length) → ∀ n i e o, PN n → i < n → I i e o → ∃ env' js, Tg (c.w fr os.length) e o g (it i) env' js ∧ Go (c.w fr os.length) env' o tb { D with nx := OkI (c.w fr os.length) (I (i + 1)), ct := OkI (c.w fr os.length) (I (i + 1)), bk := u D })
    (hd : ∀ n e o, PN n → I n e o → Go c e o u D) : Go c env os (tSeq (tFor wi g tb) u) D := fun ad σ H ok => by
  refine hw ad σ H ok _ fun n J H1 fr hn ok1 up W => ?_
  refine ⟨fun i m σ H => m = n - i ∧ i ≤ n ∧ OkI (c.w fr os.length) (I i) σ H, ⟨n, by simp, Nat.zero_le _, env, os, h0, ad, ok1⟩, ?_⟩
  rintro i m σ H ⟨rfl, hi, e0, o0, hI, ad', ok'⟩
  by_cases hlt : i < n
  · refine .inr ⟨W.goes i _ _ _ _ _ hlt ok' (hG i _ _ hI), OkI (c.w fr os.length) (I (i + 1)), fun σ' H' p' => ⟨n - (i + 1), by omega, rfl, hlt, p'⟩, fun x H' y => ?_⟩
    obtain ⟨e2, r⟩ := W.yields i _ _ _ _ _ x H' hlt ok' (hG i _ _ hI) y
    obtain ⟨env', js, ht, hb⟩ := hs fr up n i e0 o0 hn hlt hI
    exact ht ad' σ H' x (ok'.ext e2) r _ fun σ2 ok2 _ => hb ad' σ2 H' ok2
  · have q : i = n := by omega
    subst q
    exact .inl ⟨W.stops _ _ _ _ _ ok' (hG i _ _ hI), hd i e0 o0 hn hI ad' σ H (up _ _ _ _ _ ok')⟩
theorem gs_nxI {J : Sy → List SO → Prop} {e : Sy} {o : List SO} (hj : J e o) (h : ∀ ad σ H, Ok c ad env os σ H → OkE c e o σ H) (hD : D.nx = OkI c J := by rfl) : Go c env os tNext D := fun ad σ H ok => by
  show D.nx σ H
  rw [hD]
  exact ⟨e, o, hj, h ad σ H ok⟩
/-- [.. for .. in ..] whose elements are drawn -/
theorem em_lc {wi : TI} {n : Nat} {it : Nat → SV} {G : List SO → Prop} {vs : List Nat} {PE : PyData → Prop} {tt : TT} (hw : EvW c env os wi n it G) (hG : ∀ o, G (os ++ [o])) (hz : n ≤ 40000) (he : wipeE env vs = env) (hO : OsLt os.length os) (hE : EnLt os.length env)
    (hs : ∀ fr lo, Up c (c.w fr lo) → ∀ acc i, i < n → ∃ env' js, (∀ j ∈ js, j ∈ vs) ∧ wipeE env' vs = env ∧ Tg (c.w fr lo) env (os ++ [.lst acc]) g (it i) env' js ∧ EvT (c.w fr lo) env' (os ++ [.lst acc]) tt true ∧ EvM (c.w fr lo) env' (os ++ [.lst acc]) te PE) :
    EvM c env os (tLc wi g tt te vs) (fun d => ∃ ds, d = .list ds ∧ ds.length = n ∧ ∀ x ∈ ds, PE x) := fun ad σ H ok Q q => by
  refine hw ad σ H ok _ fun J H1 fr e1 ok1 up W Da hD => ?_
  have ok2 := ok1.new (o := .lst []) hD (Ex.new (o := .lst []) hD) (fresh0 ok1 hD) ⟨[], upd_same, .nil⟩
  have ok3 := ok2.pin (v := .ref Da) (s := .r os.length) ⟨congrArg V.ref adN_same.symm, by simp⟩
  have ok4 := ok3.wipe vs
  rw [he] at ok4
  have up2 := up_pin (v := .ref Da) (s := .r os.length) ok2
  generalize hlo : (os ++ [SO.lst []]).length = lo at ok4 up2
  generalize hfr : ((V.ref Da, SV.r os.length) :: fr) = fr' at ok4 up2
  have upc : Up c (c.w fr' lo) := fun a b d e f z => up _ _ _ _ _ (up2 _ _ _ _ _ z)
  refine ⟨fun i m H => m = n - i ∧ i ≤ n ∧ ∃ ds : List PyData, ds.length = i ∧ (∀ x ∈ ds, PE x) ∧ Ok (c.w fr' lo) (adN ad os.length Da) env (os ++ [.lst (ds.map SV.i)]) (wipe σ vs) H, ⟨n, by simp, Nat.zero_le _, [], rfl, fun x hx => absurd hx List.not_mem_nil, ok4⟩, ?_⟩
  rintro i m H' ⟨rfl, hi, ds, hds, hPE, ok'⟩
  have hget : (os ++ [SO.lst (ds.map SV.i)])[os.length]? = some (.lst (ds.map SV.i)) := by simp
  by_cases hlt : i < n
  · refine .inr ⟨W.goes i _ _ _ _ _ hlt (up2 _ _ _ _ _ ok') (hG _), fun H'' => ∃ d : PyData, PE d ∧ Ok (c.w fr' lo) (adN ad os.length Da) env (os ++ [.lst ((ds ++ [d]).map SV.i)]) (wipe σ vs) H'', fun H'' p' => ⟨n - (i + 1), by omega, rfl, hlt, ?_⟩, fun x H'' y => ?_⟩
    · obtain ⟨d, hd, okd⟩ := p'
      exact ⟨ds ++ [d], by simp [hds], fun x hx => by
        rcases List.mem_append.mp hx with z | z
        · exact hPE x z
        · rw [List.mem_singleton.mp z]; exact hd, okd⟩
    obtain ⟨e2, r⟩ := W.yields i _ _ _ _ _ x H'' hlt (up2 _ _ _ _ _ ok') (hG _) y
    have ok5 := ok'.ext e2
    obtain ⟨env', js, hjs, hwe, ht, hb, hte⟩ := hs fr' lo upc (ds.map SV.i) i hlt
    refine ht _ _ H'' x ok5 r _ fun σ2 ok6 hwp => ?_
    have hww : wipe σ2 vs = wipe σ vs := by
      rw [hwp vs hjs]
      have idem : ∀ (us : List Nat) (τ : L2.St), (∀ j ∈ us, τ[j]? = some none ∨ τ[j]? = none) → wipe τ us = τ := by
        intro us
        induction us with
        | nil => intro τ _; rfl
        | cons u us ih =>
          intro τ h
          show (wipe τ us).set u none = τ
          rw [ih τ fun j hj => h j (List.mem_cons_of_mem _ hj)]
          rcases h u (List.mem_cons_self ..) with z | z
          · obtain ⟨h1, h2⟩ := List.getElem?_eq_some_iff.mp z
            exact List.ext_getElem? fun k => by
              by_cases q : u = k
              · subst q; rw [List.getElem?_set_self h1, z]
              · rw [List.getElem?_set_ne q]
          · exact List.set_eq_of_length_le (List.getElem?_eq_none_iff.mp z)
      refine idem vs _ fun j hj => ?_
      cases hx : (wipe σ vs)[j]? with
      | none => exact Or.inr rfl
      | some o =>
        cases o with
        | none => exact Or.inl rfl
        | some v => exact absurd hj (wipe_some hx).2
    refine ⟨hww, hb _ σ2 H'' ok6 _ fun H3 e3 => ?_⟩
    rw [if_pos rfl]
    refine hte _ σ2 H3 (ok6.ext e3) _ fun y H4 d hd ok7 ry => ?_
    have ok8 := ok7.wipe vs
    rw [hwe, hww] at ok8
    obtain ⟨_, ws, hws, pws⟩ := ok8.obj os.length _ hget rfl
    rw [adN_same] at hws
    refine ⟨ws, hws, ?_, d, hd, ?_⟩
    · rw [Paired.length pws, List.length_map, hds]
      exact Nat.lt_of_lt_of_le (show i < 40000 by omega) (by decide)
    · have hN : Nof (c.w fr' lo) (adN ad os.length Da) (os ++ [SO.lst (ds.map SV.i)]) Da := Or.inr ⟨os.length, ⟨_, hget, rfl⟩, adN_same.symm⟩
      have m := ok8.mut (o' := .lst ((ds ++ [d]).map SV.i)) (u' := .lst (ws ++ [y])) hget rfl rfl (by
        rw [adN_same]
        refine ⟨_, upd_same, ?_⟩
        rw [List.map_append]
        exact paired_snoc (Paired.imp pws fun _ _ z => z.mut hws rfl hN) (show Dn _ _ _ _ _ from Dn.mut hws rfl hN ry))
      rw [adN_same] at m
      have es : (os ++ [SO.lst (ds.map SV.i)]).set os.length (SO.lst ((ds ++ [d]).map SV.i)) = os ++ [SO.lst ((ds ++ [d]).map SV.i)] := by
        rw [List.set_append_right _ _ (Nat.le_refl _), Nat.sub_self]
        rfl
      rw [es] at m
      exact m
  · have q0 : i = n := by omega
    subst q0
    refine .inl ⟨W.stops _ _ _ _ _ (up2 _ _ _ _ _ ok') (hG _), ?_⟩
    have okc := upc _ _ _ _ _ ok'
    obtain ⟨_, ws, hws, pws⟩ := okc.obj os.length _ hget rfl
    rw [adN_same] at hws
    have lvU : ∀ k, Lv os k → Lv (os ++ [SO.lst (ds.map SV.i)]) k ∧ k < os.length := fun k ⟨o, h1, h2⟩ => by
      have hk : k < os.length := (List.getElem?_eq_some_iff.mp h1).1
      exact ⟨⟨o, by rw [List.getElem?_append_left hk]; exact h1, h2⟩, hk⟩
    have hN : ∀ a, Nof c ad os a → Nof c (adN ad os.length Da) (os ++ [SO.lst (ds.map SV.i)]) a := fun a z => by
      rcases z with z | ⟨k, l, z⟩
      · exact Or.inl z
      · obtain ⟨l2, hk⟩ := lvU k l
        exact Or.inr ⟨k, l2, by rw [adN_ne (by omega)]; exact z⟩
    have hv : ∀ m v s, SvLt os.length s → SvOk c.K (Nof c (adN ad os.length Da) (os ++ [SO.lst (ds.map SV.i)])) (adN ad os.length Da) m H' v s → SvOk c.K (Nof c ad os) ad os.length H' v s := fun m v s l h => by
      cases s with
      | i d => exact Dn.sub hN h
      | t x => exact h
      | ob C m => exact ObOk.sub hN h
      | r k => exact ⟨by rw [h.1, adN_ne (Nat.ne_of_lt l)], l⟩
    have okR : Ok c ad env os σ H' := by
      refine ⟨ok.len, okc.ex, okc.n0, fun j s h => ?_, fun k o h l => ?_, fun k j lk lj z => ?_, fun k lk => ?_, fun p hp => ?_, ok.low⟩
      · obtain ⟨v, h1, h2⟩ := okc.val j s h
        exact ⟨v, (wipe_some h1).1, hv _ v s (hE.get h) h2⟩
      · obtain ⟨lv, hk⟩ := lvU k ⟨o, h, l⟩
        obtain ⟨h1, h2⟩ := okc.obj k o (by rw [List.getElem?_append_left hk]; exact h) l
        rw [adN_ne (Nat.ne_of_lt hk)] at h1 h2
        refine ⟨h1, ?_⟩
        have lt := hO.get h
        cases o with
        | x => exact True.intro
        | lst xs => obtain ⟨vs, e, p⟩ := h2; exact ⟨vs, e, Paired.impR p fun a b m q => hv _ _ _ (lt b m) q⟩
        | dK kvs => obtain ⟨vs, e, p⟩ := h2; exact ⟨vs, e, Paired.impR p fun a b m q => ⟨q.1, hv _ _ _ (lt b m) q.2⟩⟩
        | dT kvs => obtain ⟨vs, e, p⟩ := h2; exact ⟨vs, e, Paired.impR p fun a b m q => ⟨q.1, hv _ _ _ (lt b m) q.2⟩⟩
        | ho g => exact h2
        | nums => exact h2
        | stt k => obtain ⟨v, a, m, e, r⟩ := h2; exact ⟨v, a, m, e, hv _ _ _ lt r⟩
        | ob C fs => obtain ⟨dx, vs, e, p⟩ := h2; exact ⟨dx, vs, e, Paired.impR p fun a b m q => ⟨q.1, hv _ _ _ (lt b m) q.2⟩⟩
      · obtain ⟨l1, hk⟩ := lvU k lk
        obtain ⟨l2, hj⟩ := lvU j lj
        exact okc.inj k j l1 l2 (by rw [adN_ne (Nat.ne_of_lt hk), adN_ne (Nat.ne_of_lt hj)]; exact z)
      · obtain ⟨l1, hk⟩ := lvU k lk
        have := okc.nn k l1
        rw [adN_ne (Nat.ne_of_lt hk)] at this
        exact this
      · have h1 := okc.frm p hp
        have h2 := ok.frm p hp
        cases hs : p.2 with
        | r k =>
          rw [hs] at h2
          exact h2
        | i d => rw [hs] at h1; exact Dn.sub hN h1
        | t x => rw [hs] at h1; exact h1
        | ob C m => rw [hs] at h1; exact ObOk.sub hN h1
    refine q _ H' _ ⟨ds, rfl, hds, hPE⟩ okR (.lst (Or.inl hws) (fun z => ?_) ((paired_dn pws).sub hN))
    exact ok1.nof (show Nof (c.w fr os.length) ad os Da from z) hD
/-- ''.join(..) of drawn texts -/
theorem joinL_nil : ∀ ls : List (List Nat), TL.joinL [] ls = ls.flatten
  | [] => rfl
  | [p] => by simp [TL.joinL]
  | p :: q :: r => by
    show p ++ ([] ++ TL.joinL [] (q :: r)) = _
    rw [joinL_nil (q :: r), List.nil_append]
    simp
theorem em_join {r : V → List V → Hp → VK → Prop} {PT : List (List Nat) → Prop} (hr : r = (fun x xs H Q => ∃ a p, ∃ ys : List Str, x = .str a ∧ xs = [.ref p] ∧ (SqL c.K H p (ys.map V.str) ∨ SqT c.K H p (ys.map V.str)) ∧ (ys.map (·.length)).sum + ys.length * a.length ≤ 16777216 ∧ Q (.str (Txt.join a ys)) H))
    (ho : EvX true c env os to (dT [])) (h : EvM c env os te (fun d => ∃ ls : List (List Nat), d = .list (ls.map dT) ∧ PT ls)) (hl : ∀ ls, PT ls → (ls.map List.length).sum ≤ 16777216) : EvM c env os (tM1 r to te) (fun d => ∃ ls, PT ls ∧ d = dT ls.flatten) := fun ad σ H ok Q q => by
  subst hr
  refine ho ad σ H ok _ fun v H1 e1 r1 => ⟨⟨_, dn_str r1⟩, h ad σ H1 (ok.ext e1) _ fun x H2 d p ok2 r2 => ?_⟩
  obtain ⟨ls, rfl, hp⟩ := p
  have hsq : ∃ p, x = .ref p ∧ SqL c.K H2 p ((ls.map sT).map V.str) := by
    have ev : ∀ vs, DnAll c.K (Nof c ad os) H2 vs (ls.map dT) → vs = (ls.map sT).map V.str := fun vs pd => by
      clear r2 hp q h hl
      induction ls generalizing vs with
      | nil => cases pd; rfl
      | cons x xs ih =>
        cases pd with
        | cons a b => rw [dn_str a, ih _ b]; rfl
    cases r2 with
    | lst r n a => exact ⟨_, rfl, ev _ a ▸ Or.inl r⟩
    | lstK r a => exact ⟨_, rfl, ev _ a ▸ Or.inr r⟩
  obtain ⟨p, rfl, hs⟩ := hsq
  refine ⟨sT [], p, ls.map sT, dn_str r1, rfl, Or.inl hs, ?_, ?_⟩
  · have e : ((ls.map sT).map (·.length)).sum = (ls.map List.length).sum := by
      rw [List.map_map]
      exact congrArg _ (List.map_congr_left fun a _ => sT_len a)
    rw [e]
    have := hl ls hp
    rw [show (sT []).length = 0 from rfl]
    omega
  · have e : Txt.join (sT []) (ls.map sT) = sT ls.flatten := by
      refine TL.ext_tl ?_
      rw [TL.join_eq, TL.tl_join, List.map_map]
      have e1 : ls.map (TL.tl ∘ sT) = ls := by
        have : ∀ l : List Nat, (TL.tl ∘ sT) l = l := fun l => sT_cps l
        rw [List.map_congr_left fun l _ => this l]
        exact List.map_id' ls
      rw [e1]
      show TL.joinL [] ls = TL.tl (sT ls.flatten)
      rw [joinL_nil]
    rw [e]
    exact q _ H2 _ ⟨ls, hp, rfl⟩ ok2 (.str _)
/-- a sign of a text at a drawn place -/
theorem em_ixS {l : List Nat} (ha : EvX true c env os ta (dT l)) (hb : EvM c env os tb (fun d => ∃ i : Nat, d = .int (i : Int) ∧ i < l.length)) (hl : l.length ≤ 16777216) : EvM c env os (tOp rIxS ta tb) (fun d => ∃ x ∈ l, d = dT [x]) := fun ad σ H ok Q q =>
  ha ad σ H ok _ fun v H1 e1 r1 => hb ad σ H1 (ok.ext e1) _ fun u H2 d p ok2 r2 => by
    obtain ⟨i, rfl, hi⟩ := p
    exact ⟨sT l, i, l[i], dn_str r1, dn_int r2, by rw [sT_len]; exact hl, by rw [sT_cps]; exact atI_nat (List.getElem?_eq_getElem hi), q _ H2 _ ⟨l[i], List.getElem_mem hi, rfl⟩ ok2 (.str _)⟩
end
end DL
namespace DL
open PySem PySem.Spec PyProof.Rows L2
theorem kLenS {X : Cx} {K : PySem.W.Frag} {a : Expr} {ta : TE} {p p2 q pos : Pos} (hg : Gl X "len") (hm : X.mg "len" = none) (hg2 : Gl X "set") (hm2 : X.mg "set" = none) (ha : PE X a ta) (hc : X.calm = true := by rfl) (hk : X.K = K := by rfl)
    (na : starEach [a] X.env = (false, eval a X.env) :: starEach [] X.env := by rfl) : PE X (.Call (.Name "len" p) [.Call (.Name "set" p2) [a] [] q] [] pos) (tLenS K ta) := pe_lenS hg hm hg2 hm2 ha hc hk na
def rJoin (K : PySem.W.Frag) : V → List V → Hp → VK → Prop := fun x xs H Q => ∃ a p, ∃ ys : List Str, x = .str a ∧ xs = [.ref p] ∧ (SqL K H p (ys.map V.str) ∨ SqT K H p (ys.map V.str)) ∧ (ys.map (·.length)).sum + ys.length * a.length ≤ 16777216 ∧ Q (.str (Txt.join a ys)) H
theorem kJoin {X : Cx} {K : PySem.W.Frag} {o e : Expr} {to te : TE} {apos pos : Pos} (ho : PE X o to) (he : PE X e te) (hk : X.K = K := by rfl) (hs : starEach [e] X.env = [(false, eval e X.env)] := by rfl) (hbase : attributeBase o "join" X.env (eval o X.env) = eval o X.env := by rfl) (hline : (apos.endLine == pos.line) = true := by rfl) :
    PE X (.Call (.Attribute o "join" apos) [e] [] pos) (tM1 (rJoin K) to te) := by subst hk; exact pe_join ho he hs hbase hline
theorem kStarT {X : Cx} {K : PySem.W.Frag} {pos sp : Pos} {e1 e2 : Expr} {k : Nat} {t : TGs} (h : PGs X [e1, e2] t) (hst : assignEach [e1, .Starred e2 sp] X.env = [(false, assign e1 X.env), (true, assign e2 X.env)] := by rfl) (hs2 : assignEach [e1, e2] X.env = [(false, assign e1 X.env), (false, assign e2 X.env)] := by rfl) (hc : X.calm = true := by rfl) (hk : X.K = K := by rfl) :
    PG X (.Tuple [e1, .Starred e2 sp] k pos) (gStar K t) := pg_star h hst hs2 hc hk
end DL

set_option Elab.async false
set_option linter.all false
set_option maxRecDepth 100000
set_option maxHeartbeats 4000000
open PySem PySem.Spec PyProof.Rows L2 DL
namespace Q
def topS (i : Nat) : Stmt := PySem.Challenge.pw_quirekiln_k33_weight_of_a_selector.main.body.getD i (.Pass ⟨0, 0, 0, 0⟩)
abbrev T4 (x y w h : Int) : PyData := .tuple [.int x, .int y, .int w, .int h]
local macro_rules | `(tactic| walk_at "cc") => `(tactic| first
  | assumption | decide | omega
  | exact Or.inr ⟨by decide, by decide⟩ | exact Or.inl ⟨by decide, by decide⟩
  | (refine Or.inr ⟨?_, ?_⟩ <;> omega) | (refine Or.inl ⟨?_, ?_⟩ <;> omega)
  | (refine ⟨?_, ?_⟩ <;> omega) | (refine wide_div (b := 64) ?_ ?_ (by decide) (by decide) <;> omega) | (dsimp only; omega) | (simp only [CDiv, CMul, CPow]; omega))
local macro_rules | `(tactic| walk_at "at") => `(tactic| first | rfl | exact atI_nat rfl)
local macro_rules | `(tactic| walk_at "v") => `(tactic| first
  | exact ex_int | exact ex_bl | exact ex_non | exact ex_str
  | exact ex_var rfl
  | exact ex_const (by assumption)
  | (refine' ex_i2 ?va ?vb; (case va => walk_at "v"); (case vb => walk_at "v"))
  | (refine' ex_b2 ?va ?vb; (case va => walk_at "v"); (case vb => walk_at "v"))
  | (refine' ex_i2c ?va ?vb ?vc; (case va => walk_at "v"); (case vb => walk_at "v"); (case vc => walk_at "cc"))
  | (refine' ex_u ?va; (case va => walk_at "v"))
  | (refine' ex_tup ?va ?vb; (case va => walk_at "a"); (case vb => exact Nat.le_of_ble_eq_true rfl))
  | (refine' ex_int1 rfl ?va; (case va => walk_at "v"))
  | (refine' ex_and ?va ?vb; (case va => walk_at "v"); (case vb => intro _; walk_at "v"))
  | (refine' ex_or ?va ?vb; (case va => walk_at "v"); (case vb => intro _; walk_at "v"))
  | (refine' ex_not ?va; (case va => walk_at "v"))
  | (refine' ex_chain rfl rfl ?va ?vb ?vc; (case va => walk_at "v"); (case vb => walk_at "v"); (case vc => walk_at "v"))
  | (refine' ex_ixT ?va ?vb ?vc; (case va => walk_at "v"); (case vb => walk_at "v"); (case vc => walk_at "at"))
  | (refine' ex_eqI ?va ?vb; (case va => walk_at "v"); (case vb => walk_at "v"))
  | (refine' ex_neI ?va ?vb; (case va => walk_at "v"); (case vb => walk_at "v"))
  | (refine' ex_eqB ?va ?vb; (case va => walk_at "v"); (case vb => walk_at "v"))
  | (refine' ex_neB ?va ?vb; (case va => walk_at "v"); (case vb => walk_at "v"))
  | (refine' ex_eqD ?va ?vb ?vc ?vd; (case va => walk_at "v"); (case vb => walk_at "v"); (case vc => walk_at "sh"); (case vd => walk_at "sh"))
  | (refine' ex_neD ?va ?vb ?vc ?vd; (case va => walk_at "v"); (case vb => walk_at "v"); (case vc => walk_at "sh"); (case vd => walk_at "sh"))
  | (refine' ex_isi ?va ?vb; (case va => walk_at "v"); (case vb => walk_at "kit"))
  | (refine' ex_lenK ?va; (case va => walk_at "i"))
  | (refine' ex_lenTK ?va; (case va => walk_at "v"))
  | (refine' ex_max2 rfl ?va ?vb; (case va => walk_at "v"); (case vb => walk_at "v"))
  | (refine' ex_min2 rfl ?va ?vb; (case va => walk_at "v"); (case vb => walk_at "v"))
  | (refine' ex_call ?va ?vb; (case va => walk_at "a"); (case vb => walk_at "r"))
  | (refine' EvF.ev ?va; (case va => walk_at "f")))
local macro_rules | `(tactic| walk_at "a") => `(tactic| first
  | exact ea_nil
  | (refine' ea_cons ?va ?vb; (case va => walk_at "v"); (case vb => walk_at "a")))
local macro_rules | `(tactic| walk_at "f") => `(tactic| first
  | (refine' ef_lst (EvA.ss (ds := _) ?va) ?vb; (case va => walk_at "a"); (case vb => exact Nat.le_of_ble_eq_true rfl))
  | (refine' ef_listK ?va; (case va => walk_at "i")))
local macro_rules | `(tactic| walk_at "i") => `(tactic| first
  | (refine' EvX.it ?va; (case va => walk_at "v"))
  | (refine' EvR.it (er_var rfl ?va) rfl; (case va => decide)))
local macro_rules | `(tactic| walk_at "t") => `(tactic| first
  | (refine' et_test ?va; (case va => walk_at "v"))
  | (refine' et_B ?va; (case va => walk_at "v"))
  | (refine' et_and ?va ?vb; (case va => walk_at "t"); (case vb => intro _; walk_at "t"))
  | (refine' et_or ?va ?vb; (case va => walk_at "t"); (case vb => intro _; walk_at "t"))
  | (refine' et_not ?va; (case va => walk_at "t")))
local macro_rules | `(tactic| walk_at "r") => `(tactic| first | assumption | walk_at "r2")
local macro_rules | `(tactic| walk_at "set") => `(tactic| (refine' gs_asg ?va ?_; (case va => walk_at "v")))
local macro_rules | `(tactic| walk_at "env") => `(tactic| simp only [env0, List.map, List.length, List.replicate, List.append, List.cons_append, List.nil_append, Nat.reduceAdd, Nat.reduceSub, Nat.sub_self])
local macro_rules | `(tactic| walk_at "ret") => `(tactic| (refine' gs_ret (EvX.is ?va ?vb) (by assumption); (case va => walk_at "v"); (try (case vb => rfl))))
local macro_rules | `(tactic| walk_at "asg4") => `(tactic| (refine' gs_asgT ?va (tg_tup (tgs_cons tg_name (tgs_cons tg_name (tgs_cons tg_name (tgs_cons tg_name tgs_nil)))) rfl) ?_; (case va => walk_at "v")))
local macro_rules | `(tactic| walk_at "asg3") => `(tactic| (refine' gs_asgT ?va (tg_tup (tgs_cons tg_name (tgs_cons tg_name (tgs_cons tg_name tgs_nil))) rfl) ?_; (case va => walk_at "v")))
local macro_rules | `(tactic| walk_at "nf") => `(tactic| simp only [List.set_cons_zero, List.set_cons_succ])
local macro_rules | `(tactic| walk_at "wk") => `(tactic| (refine g_next ?_; intro ad σ H ok; exact (show OkE _ _ _ _ _ from ⟨ad, ok.weak (by simp [WkE]) (by simp [WkO]) (by simp [EnLt, SvLt]) (by walk_at "osl") (by simp)⟩)))
local macro_rules | `(tactic| walk_at "kit") => `(tactic| first | exact kit_int_int | exact kit_int_bool | exact kit_int_str | exact kit_int_tuple | exact kit_int_list | exact kit_int_dict | exact kit_bool_int | exact kit_bool_bool | exact kit_bool_str | exact kit_bool_tuple | exact kit_bool_list | exact kit_bool_dict | exact kit_str_int | exact kit_str_bool | exact kit_str_str | exact kit_str_tuple | exact kit_str_list | exact kit_str_dict | exact kit_tuple_int | exact kit_tuple_bool | exact kit_tuple_str | exact kit_tuple_tuple | exact kit_tuple_list | exact kit_tuple_dict | exact kit_list_int | exact kit_list_bool | exact kit_list_str | exact kit_list_tuple | exact kit_list_list | exact kit_list_dict | exact kit_NoneType_int | exact kit_NoneType_bool | exact kit_NoneType_str | exact kit_NoneType_tuple | exact kit_NoneType_list | exact kit_NoneType_dict | exact kit_dict_int | exact kit_dict_bool | exact kit_dict_str | exact kit_dict_tuple | exact kit_dict_list | exact kit_dict_dict)
local macro_rules | `(tactic| walk_at "sh") => `(tactic| first | exact shaped_T4 _ _ _ _ | assumption | rfl)
local macro_rules | `(tactic| walk_at "f") => `(tactic| (refine' ef_call ?va ?vb; (case va => walk_at "a"); (case vb => walk_at "r")))
local macro_rules | `(tactic| walk_at "f") => `(tactic| (refine' ef_cat ?va ?vb ?vc; (case va => walk_at "f"); (case vb => walk_at "f"); (case vc => first | exact Nat.le_of_ble_eq_true rfl | assumption)))
local macro_rules | `(tactic| walk_at "skip") => `(tactic| (refine' gs_if (b := false) (EvT.is ?va ?vb) (fun hb => nomatch hb) (fun _ => g_nextU ?_); (case va => walk_at "t"); (case vb => first | rfl | (simp; done))))
local macro_rules | `(tactic| walk_at "t") => `(tactic| (refine' et_truK ?va; (case va => walk_at "i")))
local macro_rules | `(tactic| walk_at "t") => `(tactic| exact et_yes)
local macro_rules | `(tactic| walk_at "js") => `(tactic| (intro j hj; first | (simpa using hj) | (simp at hj; simp [hj])))
local macro_rules | `(tactic| walk_at "we") => `(tactic| simp only [wipeE, List.set_cons_zero, List.set_cons_succ, List.map_cons, List.map_nil])
local macro_rules | `(tactic| walk_at "tg4") => `(tactic| exact tg_tup (tgs_cons tg_name (tgs_cons tg_name (tgs_cons tg_name (tgs_cons tg_name tgs_nil)))) rfl)
local macro_rules | `(tactic| walk_at "osl1") => `(tactic| first | exact soLt_data | exact True.intro | exact soLt_dK | exact soLt_dT)
local macro_rules | `(tactic| walk_at "osl") => `(tactic| first | exact True.intro | (refine ⟨?_, ?_⟩; (walk_at "osl1"); (walk_at "osl")) | simp [OsLt, SoLt, SvLt])
local macro_rules | `(tactic| walk_at "wkP") => `(tactic| (refine g_next ?_; intro ad σ H ok; refine ⟨?_, (show OkE _ _ _ _ _ from ⟨ad, ok.weak (by simp [WkE]) (by simp [WkO]) (by simp [EnLt, SvLt]) (by walk_at "osl") (by simp)⟩)⟩))

abbrev s_is_word : Stmt := topS 5
theorem sc_is_word : FnScope ["value", "char"] ["value"] (defScope s_is_word) := ⟨rfl, rfl, rfl, by decide +kernel, rfl, by decide +kernel, by decide +kernel⟩
def wB (l : List Nat) : Bool := decide (1 ≤ l.length) && decide (l.length ≤ 12) && l.all (fun x => decide (97 ≤ x) && decide (x ≤ 122))
def R_is_word : List PyData → PyData → Prop := fun ds d => ∃ l : List Nat, l.length ≤ 40000 ∧ ds = [dT l] ∧ d = .bool (wB l)
theorem R_is_word_i {l : List Nat} (h : l.length ≤ 40000) : R_is_word [dT l] (.bool (wB l)) := ⟨l, h, rfl, rfl⟩
local macro_rules | `(tactic| walk_at "r2") => `(tactic| exact R_is_word_i (by assumption))
theorem R_is_word_len : ∀ ds d, R_is_word ds d → ds.length = 1 := by
  intro ds d hh
  unfold R_is_word at hh
  repeat (obtain ⟨_, hh⟩ := hh)
  subst_eqs
  rfl
theorem ok_is_word {P : Program} {w : World} {K : PySem.W.Frag} {mg : Str → Option Value} {base : Heap} {f : Addr} {fd : FuncData} (F : FnP K "is_word" s_is_word f fd) (g0 : mg "is_word" = some (.ref f)) (z_isinstance : mg "isinstance" = none) (z_str : mg "str" = none) (z_len : mg "len" = none) (z_all : mg "all" = none) (c_LONGEST_WORD : ∃ t, mg "LONGEST_WORD" = some (.int 12 t)) : Cal P w K mg base 1 "is_word" ["value"] (spD K  R_is_word) := by
  refine cal_mk F sc_is_word g0 (spD_len R_is_word_len) (fun _ _ _ _ _ _ us hl => match us, hl with | [_], _ => rfl) (fun cdv A outer s H vs Q E hr h => ⟨_,
    (pss_cons (ps_if (PW.pt (pw_or (pt_not (pt_val (pe_callB (DL.kIsi (K := K)) (by rfl) z_isinstance (by decide +kernel) (pa_cons (pv 0) (pa_cons (pe_bltn (v := .ty "str") (u := .type "str") (by rfl) z_str (by decide +kernel) rfl) pa_nil))))) (pw_or1 (pt_not (pt_chain op_le op_le pe_int (pe_callB call_len_str (by rfl) z_len (by decide +kernel) (pa_cons (pv 0) pa_nil)) (C8.pe_gc (v := .int 12) (by rfl) (DL.gci c_LONGEST_WORD)))))))
     (pss_cons (ps_ret pe_bl)
     pss_nil)
     pss_nil)
     (pss_cons (ps_ret (pe_callB (DL.kAll (K := K) rfl) (by rfl) z_all (by decide +kernel) (pa_cons (pe_lc (own := [("char", 1)]) (by rfl) sc_is_word.nd (pi_str (pv 0)) (blkOk_by (own := [("char", 1)]) (N := ["value", "char"]) (sc := defScope s_is_word) (by decide +kernel)) (fun _ _ _ _ _ => (pg_name (i := 1) sc_is_word.nd rfl (by first | exact Or.inl rfl | exact Or.inr rfl))) (fun _ _ _ _ _ => pts_nil) (fun _ _ _ _ _ => (pe_chain op_le_str op_le_str pe_str (pv 1) pe_str))) pa_nil)))
     pss_nil)), ?_⟩)
  refine run_spD h fun N ds d hR hq => ?_
  obtain ⟨l, hl, rfl, rfl⟩ := hR
  walk_at "env"
  refine gs_if (b := !(decide ((1 : Int) ≤ (l.length : Int)) && decide ((l.length : Int) ≤ 12))) (EvT.is (et_or (et_not (et_B (ex_isi (ex_var rfl) kit_str_str))) (fun _ => et_not (et_test (ex_chain rfl rfl ex_int (ex_lenS rfl (ex_var rfl) (by omega)) ex_int)))) rfl) (fun h => ?_) (fun h => g_nextU ?_)
  · refine gs_ret (EvX.is ex_bl ?_) hq
    unfold wB
    refine congrArg PyData.bool (Eq.symm ?_)
    have h2 : (decide (1 ≤ l.length) && decide (l.length ≤ 12)) = false := by
      simp only [Bool.not_eq_true', Bool.and_eq_false_iff, decide_eq_false_iff_not] at h ⊢
      omega
    rw [h2, Bool.false_and]
  · refine gs_ret (EvX.is (ex_all (ns := l.map fun x => decide (97 ≤ x) && decide (x ≤ 122)) (EvF.it ?f1)) ?f2) hq
    case f1 =>
      refine EvF.is2 (ef_lc (xs := l) (e := fun x => .i (dT [x])) (fun _ => true) (fun x => .bool (decide (97 ≤ x) && decide (x ≤ 122))) (ew_str (ex_var rfl)) rfl (fun i x hx => by rw [List.getD_eq_getElem?_getD, hx]; rfl) (fun _ => True.intro) hl (fun fr lo up acc x hx => ⟨_, _, fun j hj => hj, tg_name, ?g1, fun _ => ?g2⟩)) ?g3
      case g1 => exact et_yes
      case g2 => exact ex_chainS rfl rfl (ex_txt (l := [97]) (by decide +kernel)) (ex_var rfl) (ex_txt (l := [122]) (by decide +kernel))
      case g3 => simp only [filt_all, List.map_map]; rfl
    case f2 =>
      refine congrArg PyData.bool ?_
      have h2 : (decide (1 ≤ l.length) && decide (l.length ≤ 12)) = true := by
        simp only [Bool.not_eq_false', Bool.and_eq_true, decide_eq_true_eq] at h ⊢
        omega
      unfold wB
      rw [h2, Bool.true_and, List.all_map]
      rfl
-- END is_word
abbrev s__parse_step : Stmt := topS 11
theorem sc__parse_step : FnScope ["joint", "part", "name", "marks", "mark"] ["joint", "part"] (defScope s__parse_step) := ⟨rfl, rfl, rfl, by decide +kernel, rfl, by decide +kernel, by decide +kernel⟩
/-! Steps of a selector and their texts. -/
def isW (l : List Nat) : Prop := 1 ≤ l.length ∧ l.length ≤ 12 ∧ ∀ x ∈ l, 97 ≤ x ∧ x ≤ 122
abbrev Stp := List Nat × List Nat × List (List Nat)
def dStp (s : Stp) : PyData := .tuple [dT s.1, dT s.2.1, .tuple (s.2.2.map dT)]
/-- a step's text, its joint aside -/
def stT (s : Stp) : List Nat := s.2.1 ++ (s.2.2.map (fun m => 46 :: m)).flatten
def stOk (s : Stp) : Prop := (s.2.1 = [42] ∧ s.2.2 = []) ∨ ((isW s.2.1 ∨ (s.2.1 = [] ∧ s.2.2 ≠ [])) ∧ (∀ m ∈ s.2.2, isW m) ∧ s.2.2.Nodup)
theorem isW_not {l : List Nat} (h : isW l) {d : Nat} (hd : d < 97) : d ∉ l := fun z => by have := (h.2.2 d z).1; omega
theorem isW_ne {l : List Nat} (h : isW l) : l ≠ [] := fun z => by rw [z] at h; exact absurd h.1 (by decide)
theorem splitC_none {d : Nat} : ∀ {l : List Nat}, d ∉ l → splitC d l = [l]
  | [], _ => rfl
  | c :: r, h => splitC_miss (fun z => h (z ▸ List.mem_cons_self ..)) (splitC_none fun z => h (List.mem_cons_of_mem _ z))
theorem splitC_app {d : Nat} : ∀ {l r : List Nat}, d ∉ l → splitC d (l ++ d :: r) = l :: splitC d r
  | [], r, _ => splitC_hit d r
  | c :: l, r, h => splitC_miss (fun z => h (z ▸ List.mem_cons_self ..)) (splitC_app fun z => h (List.mem_cons_of_mem _ z))
theorem splitC_marks : ∀ {n : List Nat} {ms : List (List Nat)}, 46 ∉ n → (∀ m ∈ ms, 46 ∉ m) → splitC 46 (n ++ (ms.map (fun m => 46 :: m)).flatten) = n :: ms
  | n, [], h, _ => by simpa using splitC_none h
  | n, m :: ms, h, hm => by
    rw [List.map_cons, List.flatten_cons, List.cons_append, splitC_app h, splitC_marks (hm m (List.mem_cons_self ..)) fun x hx => hm x (List.mem_cons_of_mem _ hx)]
theorem stOk_n {s : Stp} (h : stOk s) {d : Nat} (hd : d < 97) (h2 : d ≠ 42) : d ∉ s.2.1 := by
  rcases h with h | ⟨h | h, _⟩
  · rw [h.1]; simpa using h2
  · exact isW_not h hd
  · rw [h.1]; exact List.not_mem_nil
theorem stOk_m {s : Stp} (h : stOk s) {d : Nat} (hd : d < 97) : ∀ m ∈ s.2.2, d ∉ m := by
  rcases h with h | ⟨_, h, _⟩
  · rw [h.2]; exact fun m hm => absurd hm List.not_mem_nil
  · exact fun m hm => isW_not (h m hm) hd
theorem stT_split {s : Stp} (h : stOk s) : splitC 46 (stT s) = s.2.1 :: s.2.2 := splitC_marks (stOk_n h (by decide) (by decide)) (stOk_m h (by decide))
/-- no space, no '>' in a step's text; it is not empty -/
theorem stT_free {s : Stp} (h : stOk s) {d : Nat} (hd : d < 97) (h2 : d ≠ 42) (h3 : d ≠ 46) : d ∉ stT s := by
  intro z
  rcases List.mem_append.mp z with z | z
  · exact stOk_n h hd h2 z
  · obtain ⟨l, hl, hd2⟩ := List.mem_flatten.mp z
    obtain ⟨m, hm, rfl⟩ := List.mem_map.mp hl
    rcases List.mem_cons.mp hd2 with e | e
    · exact h3 e
    · exact stOk_m h hd m hm e
theorem stT_ne {s : Stp} (h : stOk s) : stT s ≠ [] := by
  unfold stT
  rcases h with h | ⟨h | h, _⟩
  · rw [h.1]; simp
  · have := isW_ne h; simp [this]
  · cases e : s.2.2 with
    | nil => exact absurd e h.2
    | cons m ms => simp
theorem stT_star {s : Stp} (h : stOk s) : stT s = [42] ↔ s.2.1 = [42] := by
  constructor
  · intro e
    rcases h with h | ⟨h | h, _⟩
    · exact h.1
    · exact absurd (show 42 ∈ s.2.1 from by
        unfold stT at e
        cases hn : s.2.1 with
        | nil => exact absurd hn (isW_ne h)
        | cons a r => rw [hn, List.cons_append] at e; rw [(List.cons.inj e).1]; exact List.mem_cons_self ..) (isW_not h (by decide))
    · unfold stT at e
      rw [h.1, List.nil_append] at e
      cases hm : s.2.2 with
      | nil => exact absurd hm h.2
      | cons m ms => rw [hm, List.map_cons, List.flatten_cons, List.cons_append] at e; exact absurd (List.cons.inj e).1 (by decide)
  · intro e
    rcases h with h | ⟨h | h, _⟩
    · unfold stT; rw [h.1, h.2]; rfl
    · exact absurd (e ▸ List.mem_singleton.mpr rfl) (isW_not h (show 42 < 97 by decide))
    · rw [h.1] at e; cases e
/-! the text of all steps -/
def jnT (j : List Nat) : List Nat := if j = [62] then [32, 62, 32] else j
def wrT : List Stp → List Nat
  | [] => []
  | s :: r => jnT s.1 ++ stT s ++ wrT r
/-- steps as they follow a first one -/
def folOk (s : Stp) : Prop := (s.1 = [32] ∨ s.1 = [62]) ∧ stOk s
def stepsOk : List Stp → Prop
  | [] => False
  | s :: r => s.1 = [] ∧ stOk s ∧ ∀ x ∈ r, folOk x
/-- the parts that parse meets behind a step -/
def parts : List Stp → List (List Nat)
  | [] => []
  | s :: r => (if s.1 = [62] then [[62]] else []) ++ stT s :: parts r
theorem split_rest : ∀ {r : List Stp} {p : List Nat}, (∀ x ∈ r, folOk x) → 32 ∉ p → splitC 32 (p ++ wrT r) = p :: parts r
  | [], p, _, hp => by
    show splitC 32 (p ++ []) = _
    rw [List.append_nil]
    exact splitC_none hp
  | s :: r, p, h, hp => by
    obtain ⟨hj, hs⟩ := h s (List.mem_cons_self ..)
    have hs32 : 32 ∉ stT s := stT_free hs (by decide) (by decide) (by decide)
    have ih := split_rest (r := r) (p := stT s) (fun x hx => h x (List.mem_cons_of_mem _ hx)) hs32
    show splitC 32 (p ++ (jnT s.1 ++ stT s ++ wrT r)) = p :: ((if s.1 = [62] then [[62]] else []) ++ stT s :: parts r)
    rcases hj with hj | hj
    · rw [hj]
      show splitC 32 (p ++ ([32] ++ stT s ++ wrT r)) = _
      rw [List.append_assoc [32], List.singleton_append, splitC_app hp, ih]
      rfl
    · rw [hj]
      show splitC 32 (p ++ ([32, 62, 32] ++ stT s ++ wrT r)) = _
      have e : p ++ ([32, 62, 32] ++ stT s ++ wrT r) = p ++ 32 :: ([62] ++ 32 :: (stT s ++ wrT r)) := by simp
      rw [e, splitC_app hp, splitC_app (by decide), ih]
      rfl
theorem split_all {s : Stp} {r : List Stp} (h : stepsOk (s :: r)) : splitC 32 (wrT (s :: r)) = parts (s :: r) := by
  obtain ⟨h1, h2, h3⟩ := h
  show splitC 32 (jnT s.1 ++ stT s ++ wrT r) = (if s.1 = [62] then [[62]] else []) ++ stT s :: parts r
  rw [h1]
  exact split_rest h3 (stT_free h2 (by decide) (by decide) (by decide))
theorem wB_of {l : List Nat} (h : isW l) : wB l = true := by
  unfold wB
  rw [decide_eq_true h.1, decide_eq_true h.2.1]
  refine List.all_eq_true.mpr fun x hx => ?_
  obtain ⟨a, b⟩ := h.2.2 x hx
  rw [decide_eq_true a, decide_eq_true b]; rfl
def R__parse_step : List PyData → PyData → Prop := fun ds d => ∃ s : Stp, stOk s ∧ (stT s).length ≤ 40000 ∧ s.2.2.length ≤ 4000 ∧ ds = [dT s.1, dT (stT s)] ∧ d = dStp s
theorem R__parse_step_i {s : Stp} (h : stOk s) (hl : (stT s).length ≤ 40000) (hm : s.2.2.length ≤ 4000) : R__parse_step [dT s.1, dT (stT s)] (dStp s) := ⟨s, h, hl, hm, rfl, rfl⟩
local macro_rules | `(tactic| walk_at "r2") => `(tactic| exact R__parse_step_i (by assumption) (by assumption) (by assumption))
theorem R__parse_step_len : ∀ ds d, R__parse_step ds d → ds.length = 2 := by
  intro ds d hh
  unfold R__parse_step at hh
  repeat (obtain ⟨_, hh⟩ := hh)
  subst_eqs
  rfl
theorem ok__parse_step {P : Program} {w : World} {K : PySem.W.Frag} {mg : Str → Option Value} {base : Heap} {f : Addr} {fd : FuncData} (F : FnP K "_parse_step" s__parse_step f fd) (g0 : mg "_parse_step" = some (.ref f)) (h_is_word : Cal P w K mg base 1 "is_word" ["value"] (spD K  R_is_word)) (z_all : mg "all" = none) (z_len : mg "len" = none) (z_set : mg "set" = none) (z_tuple : mg "tuple" = none) : Cal P w K mg base 2 "_parse_step" ["joint", "part"] (spD K  R__parse_step) := by
  refine cal_mk F sc__parse_step g0 (spD_len R__parse_step_len) (fun _ _ _ _ _ _ us hl => match us, hl with | [_, _], _ => rfl) (fun cdv A outer s H vs Q E hr h => ⟨_,
    (pss_cons (ps_if (pt_cmpR op_eq (pv 1) pe_str (nomark _))
     (pss_cons (ps_ret (pe_tup (pa_cons (pv 0) (pa_cons pe_str (pa_cons (pe_tup pa_nil) pa_nil)))))
     pss_nil)
     pss_nil)
     (pss_cons (ps_asg (pe_split (pv 1) pe_str) (DL.kStarT (K := K) (pgs_cons (pg_name (i := 2) sc__parse_step.nd rfl (by first | exact Or.inl rfl | exact Or.inr rfl)) (pgs_cons (pg_name (i := 3) sc__parse_step.nd rfl (by first | exact Or.inl rfl | exact Or.inr rfl)) pgs_nil))))
     (pss_cons (ps_if (PW.pt (pw_and (pt_cmpR op_eq (pv 2) pe_str (nomark _)) (pw_and1 (pt_not (DL.kTru (K := K) (pv 3) (by intro _; rfl))))))
     (pss_cons (ps_ret pe_non)
     pss_nil)
     pss_nil)
     (pss_cons (ps_if (PW.pt (pw_and (pt_cmpR op_ne (pv 2) pe_str (nomark _)) (pw_and1 (pt_not (pt_val (DL.pe_cal h_is_word hr (by decide) (by rfl) pass0 (pa_cons (pv 2) pa_nil)))))))
     (pss_cons (ps_ret pe_non)
     pss_nil)
     pss_nil)
     (pss_cons (ps_if (PW.pt (pw_or (pt_not (pt_val (pe_callB (DL.kAll (K := K) rfl) (by rfl) z_all (by decide +kernel) (pa_cons (pe_lc (own := [("mark", 4)]) (by rfl) sc__parse_step.nd (DL.kPiL (K := K) (pv 3)) (blkOk_by (own := [("mark", 4)]) (N := ["joint", "part", "name", "marks", "mark"]) (sc := defScope s__parse_step) (by decide +kernel)) (fun _ _ _ _ _ => (pg_name (i := 4) sc__parse_step.nd rfl (by first | exact Or.inl rfl | exact Or.inr rfl))) (fun _ _ _ _ _ => pts_nil) (fun _ _ _ _ _ => (DL.pe_cal h_is_word hr (by decide) (by rfl) pass0 (pa_cons (pv 4) pa_nil)))) pa_nil)))) (pw_or1 (pt_cmpR op_lt (DL.kLenS (K := K) (by rfl) z_len (by rfl) z_set (pv 3)) (pe_callB (DL.kLen (K := K)) (by rfl) z_len (by decide +kernel) (pa_cons (pv 3) pa_nil)) (nomark _)))))
     (pss_cons (ps_ret pe_non)
     pss_nil)
     pss_nil)
     (pss_cons (ps_ret (pe_tup (pa_cons (pv 0) (pa_cons (pv 2) (pa_cons (pe_callTy (DL.kTupleOf (K := K)) (by rfl) z_tuple (by decide +kernel) (pa_cons (pv 3) pa_nil)) pa_nil)))))
     pss_nil)))))), ?_⟩)
  refine run_spD h fun N ds d hR hq => ?_
  obtain ⟨s, hs, hl, hml, rfl, rfl⟩ := hR
  walk_at "env"
  refine gs_if (et_test (ex_eqT (ex_var rfl) (ex_txt (l := [42]) (by decide +kernel)))) (fun h => ?_) (fun h => g_nextU ?_)
  · have h1 := (stT_star hs).mp (of_decide_eq_true h)
    have h2 : s.2.2 = [] := by
      rcases hs with q | ⟨q | q, _⟩
      · exact q.2
      · exact absurd (h1 ▸ List.mem_singleton.mpr rfl) (isW_not q (show 42 < 97 by decide))
      · rw [q.1] at h1; cases h1
    refine gs_ret (EvX.is (ex_tup (ea_cons (ex_var rfl) (ea_cons (ex_txt (l := [42]) (by decide +kernel)) (ea_cons (ex_tup ea_nil (Nat.zero_le _)) ea_nil))) (Nat.le_of_ble_eq_true rfl)) ?_) hq
    unfold dStp
    rw [h1, h2]
    rfl
  have hn : ¬ s.2.1 = [42] := fun z => (of_decide_eq_false h) ((stT_star hs).mpr z)
  obtain ⟨hw, hm, hnd⟩ : (isW s.2.1 ∨ (s.2.1 = [] ∧ s.2.2 ≠ [])) ∧ (∀ m ∈ s.2.2, isW m) ∧ s.2.2.Nodup := hs.resolve_left fun z => hn z.1
  refine gs_asgStar (d := dT s.2.1) (ds := s.2.2.map dT) (EvF.it (EvF.is (ef_split (x := 46) rfl (ex_var rfl) (ex_txt (by decide +kernel)) (by decide) (by omega)) (by rw [stT_split hs]; rfl))) ?_
  walk_at "nf"
  refine gs_own (i := 3) (k := 0) (ds := s.2.2.map dT) rfl rfl ?_
  walk_at "nf"
  refine gs_if (b := false) (EvT.is (et_and (et_test (ex_eqT (b := []) (ex_var rfl) (ex_txt (by decide +kernel)))) (fun _ => et_not (et_truK (EvX.it (ex_var rfl))))) ?_) (fun z => nomatch z) fun _ => ?_
  · rcases hw with q | q
    · rw [decide_eq_false (isW_ne q)]; rfl
    · cases e : s.2.2 with
      | nil => exact absurd e q.2
      | cons m ms => rw [Bool.and_eq_false_iff]; exact Or.inr rfl
  refine g_nextU ?_
  refine gs_if (b := false) (EvT.is (et_and (et_test (ex_neT (b := []) (ex_var rfl) (ex_txt (by decide +kernel)))) (fun h => et_not (et_B (ex_call (ea_cons (ex_var rfl) ea_nil) (R_is_word_i ?c1))))) ?_) (fun z => nomatch z) fun _ => ?_
  case c1 =>
    rcases hw with q | q
    · have := q.2.1; omega
    · rw [q.1]; exact Nat.zero_le _
  · rcases hw with q | q
    · rw [wB_of q, Bool.not_true, Bool.and_false]
    · rw [q.1]; rfl
  refine g_nextU ?_
  refine gs_if (b := false) (EvT.is (et_or (a := !true) (et_not (EvT.is (et_B (ex_all (ns := s.2.2.map fun _ => true) (EvF.it (EvF.is (ef_lcD (xs := s.2.2) (e := dT) (fun _ => true) (fun _ => .bool true) (ex_var rfl) (by omega) (fun fr lo up acc x hx => ⟨_, _, fun j hj => hj, tg_name, et_yes, fun _ => EvX.is (ex_call (ea_cons (ex_var rfl) ea_nil) (R_is_word_i ?d1)) ?d2⟩)) ?d3)))) ?d4)) (fun _ => et_test (ex_b2 (ex_lenSet (xs := s.2.2.map sT) (EvX.it (EvX.is (ex_var rfl) ?d5)) ?d6 ?d7) (ex_lenK (EvX.it (ex_var rfl)))))) ?d8) (fun z => nomatch z) fun _ => ?d9
  case d1 => have := (hm x hx).2.1; omega
  case d2 => rw [wB_of (hm x hx)]
  case d3 => simp only [filt_all, List.map_map]; rfl
  case d4 => rw [List.all_map]; exact List.all_eq_true.mpr fun _ _ => rfl
  case d5 => rw [List.map_map]; rfl
  case d6 =>
    refine List.pairwise_map.mpr (hnd.imp fun z e => z (sT_inj e))
  case d7 => rw [List.length_map]; exact hml
  case d8 => simp
  case d9 =>
  refine g_nextU ?_
  refine gs_ret (ex_tup (ea_cons (ex_var rfl) (ea_cons (ex_var rfl) (ea_cons (ex_tupleOf rfl (EvX.it (ex_var rfl))) ea_nil))) (Nat.le_of_ble_eq_true rfl)) hq
-- END _parse_step
abbrev s_parse_selector : Stmt := topS 9
theorem sc_parse_selector : FnScope ["text", "steps", "joint", "part", "step"] ["text"] (defScope s_parse_selector) := ⟨rfl, rfl, rfl, by decide +kernel, rfl, by decide +kernel, by decide +kernel⟩
theorem parts_app : ∀ a b : List Stp, parts (a ++ b) = parts a ++ parts b
  | [], b => rfl
  | s :: a, b => by
    show (if s.1 = [62] then [[62]] else []) ++ stT s :: parts (a ++ b) = ((if s.1 = [62] then [[62]] else []) ++ stT s :: parts a) ++ parts b
    rw [parts_app a b, List.append_assoc, List.cons_append]
theorem stT_marks (s : Stp) : s.2.2.length ≤ (stT s).length := by
  unfold stT
  rw [List.length_append]
  have : ∀ ms : List (List Nat), ms.length ≤ ((ms.map (fun m => 46 :: m)).flatten).length := by
    intro ms
    induction ms with
    | nil => exact Nat.le_refl _
    | cons m ms ih => rw [List.map_cons, List.flatten_cons, List.length_append, List.length_cons, List.length_cons]; omega
  have := this s.2.2
  omega
theorem wrT_app : ∀ a b : List Stp, wrT (a ++ b) = wrT a ++ wrT b
  | [], b => rfl
  | s :: a, b => by
    show jnT s.1 ++ stT s ++ wrT (a ++ b) = (jnT s.1 ++ stT s ++ wrT a) ++ wrT b
    rw [wrT_app a b]
    simp only [List.append_assoc]
theorem stT_wr {s : Stp} {l : List Stp} (h : s ∈ l) : (stT s).length ≤ (wrT l).length := by
  obtain ⟨a, b, rfl⟩ := List.append_of_mem h
  rw [wrT_app]
  show _ ≤ (wrT a ++ (jnT s.1 ++ stT s ++ wrT b)).length
  simp only [List.length_append]
  omega
def jnAt (dn : List Stp) : List Nat := if dn = [] then [] else [32]
/-- what holds of the parts read so far -/
inductive PI (all : List Stp) (tx : PyData) (i : Nat) : Sy → List SO → Prop
  | at (dn rs : List Stp) (h : all = dn ++ rs) (hi : i = (parts dn).length) : PI all tx i [some (.i tx), some (.r 0), some (.i (dT (jnAt dn))), none, none] [.lst ((dn.map dStp).map SV.i)]
  | mid (dn rs : List Stp) (x : Stp) (h : all = dn ++ x :: rs) (hx : x.1 = [62]) (hd : dn ≠ []) (hi : i = (parts dn).length + 1) : PI all tx i [some (.i tx), some (.r 0), some (.i (dT [62])), none, none] [.lst ((dn.map dStp).map SV.i)]
def R_parse_selector : List PyData → PyData → Prop := fun ds d => ∃ (s : Stp) (r : List Stp), stepsOk (s :: r) ∧ (wrT (s :: r)).length ≤ 100 ∧ (s :: r).length ≤ 4 ∧ ds = [dT (wrT (s :: r))] ∧ d = .tuple ((s :: r).map dStp)
theorem R_parse_selector_i {s : Stp} {r : List Stp} (h : stepsOk (s :: r)) (hl : (wrT (s :: r)).length ≤ 100) (h4 : (s :: r).length ≤ 4) : R_parse_selector [dT (wrT (s :: r))] (.tuple ((s :: r).map dStp)) := ⟨s, r, h, hl, h4, rfl, rfl⟩
local macro_rules | `(tactic| walk_at "r2") => `(tactic| exact R_parse_selector_i (by assumption) (by assumption) (by assumption))
theorem R_parse_selector_len : ∀ ds d, R_parse_selector ds d → ds.length = 1 := by
  intro ds d hh
  unfold R_parse_selector at hh
  repeat (obtain ⟨_, hh⟩ := hh)
  subst_eqs
  rfl
theorem ok_parse_selector {P : Program} {w : World} {K : PySem.W.Frag} {mg : Str → Option Value} {base : Heap} {f : Addr} {fd : FuncData} (F : FnP K "parse_selector" s_parse_selector f fd) (g0 : mg "parse_selector" = some (.ref f)) (h__parse_step : Cal P w K mg base 2 "_parse_step" ["joint", "part"] (spD K  R__parse_step)) (z_isinstance : mg "isinstance" = none) (z_str : mg "str" = none) (z_len : mg "len" = none) (z_tuple : mg "tuple" = none) (c_MOST_CHARACTERS : ∃ t, mg "MOST_CHARACTERS" = some (.int 100 t)) (c_MOST_STEPS : ∃ t, mg "MOST_STEPS" = some (.int 4 t)) : Cal P w K mg base 3 "parse_selector" ["text"] (spD K  R_parse_selector) := by
  refine cal_mk F sc_parse_selector g0 (spD_len R_parse_selector_len) (fun _ _ _ _ _ _ us hl => match us, hl with | [_], _ => rfl) (fun cdv A outer s H vs Q E hr h => ⟨_,
    (pss_cons (ps_if (PW.pt (pw_or (pt_not (pt_val (pe_callB (DL.kIsi (K := K)) (by rfl) z_isinstance (by decide +kernel) (pa_cons (pv 0) (pa_cons (pe_bltn (v := .ty "str") (u := .type "str") (by rfl) z_str (by decide +kernel) rfl) pa_nil))))) (pw_or1 (pt_cmpR op_gt (pe_callB call_len_str (by rfl) z_len (by decide +kernel) (pa_cons (pv 0) pa_nil)) (C8.pe_gc (v := .int 100) (by rfl) (DL.gci c_MOST_CHARACTERS)) (nomark _)))))
     (pss_cons DL.ps_never
     pss_nil)
     pss_nil)
     (pss_cons (ps_set (i := 1) sc_parse_selector.nd rfl (by first | exact Or.inl rfl | exact Or.inr rfl) (pe_lst pa_nil))
     (pss_cons (ps_set (i := 2) sc_parse_selector.nd rfl (by first | exact Or.inl rfl | exact Or.inr rfl) pe_str)
     (pss_cons (ps_for PassesOwn.never rfl (DL.kPiL (K := K) (pe_split (pv 0) pe_str)) (pg_name (i := 3) sc_parse_selector.nd rfl (by first | exact Or.inl rfl | exact Or.inr rfl))
     (pss_cons (ps_if (PW.pt (pw_and (pt_cmpR op_eq (pv 3) pe_str (nomark _)) (pw_and1 (pt_cmpR op_eq (pv 2) pe_str (nomark _)))))
     (pss_cons (ps_set (i := 2) sc_parse_selector.nd rfl (by first | exact Or.inl rfl | exact Or.inr rfl) pe_str)
     (pss_cons ps_continue
     pss_nil))
     pss_nil)
     (pss_cons (ps_set (i := 4) sc_parse_selector.nd rfl (by first | exact Or.inl rfl | exact Or.inr rfl) (DL.pe_cal h__parse_step hr (by decide) (by rfl) pass0 (pa_cons (pv 2) (pa_cons (pv 3) pa_nil))))
     (pss_cons (ps_if (pt_cmpR op_isN (pv 4) pe_non (nomark _))
     (pss_cons DL.ps_never
     pss_nil)
     pss_nil)
     (pss_cons (ps_expr (DL.kBm (K := K) (pe_bm PySem.F.plainAttrs_list PySem.F.slot_list_append PySem.F.type_list_append mt_append (pv 1) (pa_cons (pv 4) pa_nil))))
     (pss_cons (ps_set (i := 2) sc_parse_selector.nd rfl (by first | exact Or.inl rfl | exact Or.inr rfl) pe_str)
     pss_nil))))))
     (pss_cons (ps_if (PW.pt (pw_or (pt_cmpR op_eq (pv 2) pe_str (nomark _)) (pw_or1 (pt_cmpR op_gt (pe_callB (DL.kLen (K := K)) (by rfl) z_len (by decide +kernel) (pa_cons (pv 1) pa_nil)) (C8.pe_gc (v := .int 4) (by rfl) (DL.gci c_MOST_STEPS)) (nomark _)))))
     (pss_cons DL.ps_never
     pss_nil)
     pss_nil)
     (pss_cons (ps_ret (pe_callTy (DL.kTupleOf (K := K)) (by rfl) z_tuple (by decide +kernel) (pa_cons (pv 1) pa_nil)))
     pss_nil)))))), ?_⟩)
  refine run_spD h fun N ds d hR hq => ?_
  obtain ⟨s, r, hs, hl, h4, rfl, rfl⟩ := hR
  generalize hall : s :: r = all at *
  have hsp : splitC 32 (wrT all) = parts all := by rw [← hall] at hs ⊢; exact split_all hs
  have hok : ∀ x ∈ all, stOk x := fun x hx => by
    rw [← hall] at hs hx
    rcases List.mem_cons.mp hx with z | z
    · rw [z]; exact hs.2.1
    · exact (hs.2.2 x z).2
  have hfst : ∀ dn x rs, all = dn ++ x :: rs → (dn = [] → x.1 = []) ∧ (dn ≠ [] → x.1 = [32] ∨ x.1 = [62]) := fun dn x rs e => by
    rw [← hall] at e hs
    cases dn with
    | nil => injection e with e1 e2; subst e1; exact ⟨fun _ => hs.1, fun z => absurd rfl z⟩
    | cons y dn =>
      injection e with e1 e2
      exact ⟨fun z => absurd z (List.cons_ne_nil _ _), fun _ => (hs.2.2 x (e2 ▸ List.mem_append_right _ (List.mem_cons_self ..))).1⟩
  walk_at "env"
  refine gs_if (b := false) (EvT.is (et_or (et_not (et_B (ex_isi (ex_var rfl) kit_str_str))) (fun _ => et_test (ex_b2 (ex_lenS rfl (ex_var rfl) (by omega)) ex_int))) ?_) (fun z => nomatch z) fun _ => ?_
  · simp; omega
  refine g_nextU ?_
  refine gs_asgF (o := .lst []) (ef_lst eas_nil (Nat.zero_le _)) ?_
  walk_at "nf"
  refine gs_asg (d := dT []) (ex_txt (by decide +kernel)) ?_
  walk_at "nf"
  refine' gs_forN (fun n => n = (parts all).length) (PI all (dT (wrT all))) (ewm (ew_list (ds := (parts all).map dT) (EvF.ev (EvF.is (ef_split (x := 32) rfl (ex_var rfl) (ex_txt (by decide +kernel)) (by decide) (by omega)) (by rw [hsp])))) (by simp)) (PI.at [] all rfl rfl) (fun _ _ _ _ => True.intro) (fun fr up n i e o hn hi hI => ?b1) (fun n e o hn hI => ?b2)
  case b1 =>
    subst hn
    cases hI with
    | «at» dn rs h hi2 =>
      cases rs with
      | nil => rw [List.append_nil] at h; rw [← h] at hi2; omega
      | cons x rs =>
        have hx := hok x (h ▸ List.mem_append_right _ (List.mem_cons_self ..))
        have hsx : (stT x).length ≤ 100 := Nat.le_trans (stT_wr (h ▸ List.mem_append_right _ (List.mem_cons_self ..))) hl
        obtain ⟨f1, f2⟩ := hfst dn x rs h
        have hp : parts all = parts dn ++ ((if x.1 = [62] then [[62]] else []) ++ stT x :: parts rs) := by rw [h, parts_app]; rfl
        by_cases h62 : x.1 = [62]
        · have hdn : dn ≠ [] := fun z => by rw [f1 z] at h62; cases h62
          rw [if_pos h62] at hp
          have hit : itD ((parts all).map dT) i = .i (dT [62]) := itD_map _ _ (by rw [hp, hi2]; simp)
          rw [hit]
          refine ⟨_, _, tg_name, ?_⟩
          walk_at "nf"
          refine gs_if (b := true) (EvT.is (et_and (et_test (ex_eqT (ex_var rfl) (ex_txt (l := [62]) (by decide +kernel)))) (fun _ => et_test (ex_eqT (ex_var rfl) (ex_txt (l := [32]) (by decide +kernel))))) ?_) (fun _ => ?_) (fun z => nomatch z)
          · unfold jnAt; rw [if_neg hdn]; rfl
          refine gs_asg (d := dT [62]) (ex_txt (by decide +kernel)) ?_
          walk_at "nf"
          refine gs_cont fun ad σ H ok => ⟨_, _, PI.mid dn rs x h h62 hdn (by omega), ?_⟩
          exact ⟨ad, ok.weak (by simp [WkE]) (by simp [WkO]) (by simp [EnLt, SvLt]) (by walk_at "osl") (by simp)⟩
        · rw [if_neg h62, List.nil_append] at hp
          have hit : itD ((parts all).map dT) i = .i (dT (stT x)) := itD_map _ _ (by rw [hp, hi2]; simp)
          rw [hit]
          have hj : x.1 = jnAt dn := by
            unfold jnAt
            by_cases z : dn = []
            · rw [if_pos z]; exact f1 z
            · rw [if_neg z]; exact (f2 z).resolve_right h62
          have h62' : stT x ≠ [62] := fun z => absurd (z ▸ List.mem_singleton.mpr rfl) (stT_free hx (show 62 < 97 by decide) (by decide) (by decide))
          refine ⟨_, _, tg_name, ?_⟩
          walk_at "nf"
          refine gs_if (b := false) (EvT.is (et_and (et_test (ex_eqT (ex_var rfl) (ex_txt (l := [62]) (by decide +kernel)))) (fun _ => et_test (ex_eqT (ex_var rfl) (ex_txt (l := [32]) (by decide +kernel))))) ?_) (fun z => nomatch z) (fun _ => g_nextU ?_)
          · rw [decide_eq_false h62']; rfl
          rw [← hj]
          refine gs_asg (d := dStp x) (ex_call (ea_cons (ex_var rfl) (ea_cons (ex_var rfl) ea_nil)) (R__parse_step_i hx (by omega) (Nat.le_trans (stT_marks x) (by omega)))) ?_
          walk_at "nf"
          refine gs_if (b := false) (EvT.is (et_test (ex_isN rfl (ex_var rfl))) rfl) (fun z => nomatch z) fun _ => g_nextU ?_
          refine gs_app (k := 0) (er_var rfl (by simp)) rfl (s := .i (dStp x)) (show EvX false _ _ _ _ _ from ex_var rfl) (by have := congrArg List.length h; have h5 : all.length ≤ 4 := h4; simp at this ⊢; omega) ?_
          refine gs_asg (d := dT [32]) (ex_txt (by decide +kernel)) ?_
          walk_at "nf"
          refine gs_nxI (show PI all (dT (wrT all)) (i + 1) _ _ from PI.at (dn ++ [x]) rs (by rw [h]; simp) (by rw [parts_app, hi2]; show _ = (parts dn ++ ((if x.1 = [62] then [[62]] else []) ++ [stT x])).length; rw [if_neg h62]; simp)) fun ad σ H ok => ⟨ad, ?_⟩
          have e1 : jnAt (dn ++ [x]) = [32] := by unfold jnAt; rw [if_neg (by simp)]
          rw [e1]
          exact ok.weak (by simp [WkE]) (by simp [WkO]) (by simp [EnLt, SvLt]) ⟨soLt_data, True.intro⟩ (by simp)
    | mid dn rs x h hx62 hd hi2 =>
      have hx := hok x (h ▸ List.mem_append_right _ (List.mem_cons_self ..))
      have hsx : (stT x).length ≤ 100 := Nat.le_trans (stT_wr (h ▸ List.mem_append_right _ (List.mem_cons_self ..))) hl
      have hp : parts all = parts dn ++ ([[62]] ++ stT x :: parts rs) := by rw [h, parts_app]; show _ ++ ((if x.1 = [62] then [[62]] else []) ++ stT x :: parts rs) = _; rw [if_pos hx62]
      have hit : itD ((parts all).map dT) i = .i (dT (stT x)) := itD_map _ _ (by rw [hp, hi2]; simp)
      rw [hit]
      have h62' : stT x ≠ [62] := fun z => absurd (z ▸ List.mem_singleton.mpr rfl) (stT_free hx (show 62 < 97 by decide) (by decide) (by decide))
      refine ⟨_, _, tg_name, ?_⟩
      walk_at "nf"
      refine gs_if (b := false) (EvT.is (et_and (et_test (ex_eqT (ex_var rfl) (ex_txt (l := [62]) (by decide +kernel)))) (fun _ => et_test (ex_eqT (ex_var rfl) (ex_txt (l := [32]) (by decide +kernel))))) ?_) (fun z => nomatch z) (fun _ => g_nextU ?_)
      · rw [decide_eq_false h62']; rfl
      rw [← hx62]
      refine gs_asg (d := dStp x) (ex_call (ea_cons (ex_var rfl) (ea_cons (ex_var rfl) ea_nil)) (R__parse_step_i hx (by omega) (Nat.le_trans (stT_marks x) (by omega)))) ?_
      walk_at "nf"
      refine gs_if (b := false) (EvT.is (et_test (ex_isN rfl (ex_var rfl))) rfl) (fun z => nomatch z) fun _ => g_nextU ?_
      refine gs_app (k := 0) (er_var rfl (by simp)) rfl (s := .i (dStp x)) (show EvX false _ _ _ _ _ from ex_var rfl) (by have := congrArg List.length h; have h5 : all.length ≤ 4 := h4; simp at this ⊢; omega) ?_
      refine gs_asg (d := dT [32]) (ex_txt (by decide +kernel)) ?_
      walk_at "nf"
      refine gs_nxI (show PI all (dT (wrT all)) (i + 1) _ _ from PI.at (dn ++ [x]) rs (by rw [h]; simp) (by rw [parts_app, hi2]; show _ = (parts dn ++ ((if x.1 = [62] then [[62]] else []) ++ [stT x])).length; rw [if_pos hx62]; simp)) fun ad σ H ok => ⟨ad, ?_⟩
      have e1 : jnAt (dn ++ [x]) = [32] := by unfold jnAt; rw [if_neg (by simp)]
      rw [e1]
      exact ok.weak (by simp [WkE]) (by simp [WkO]) (by simp [EnLt, SvLt]) ⟨soLt_data, True.intro⟩ (by simp)
  case b2 =>
  subst hn
  cases hI with
  | mid dn rs x h hx62 hd hi2 =>
    have hp : parts all = parts dn ++ ([[62]] ++ stT x :: parts rs) := by rw [h, parts_app]; show _ ++ ((if x.1 = [62] then [[62]] else []) ++ stT x :: parts rs) = _; rw [if_pos hx62]
    have := congrArg List.length hp
    simp at this
    omega
  | «at» dn rs h hi2 =>
    have hrs : rs = [] := by
      cases rs with
      | nil => rfl
      | cons x rs =>
        have hp : parts all = parts dn ++ ((if x.1 = [62] then [[62]] else []) ++ stT x :: parts rs) := by rw [h, parts_app]; rfl
        have := congrArg List.length hp
        simp at this
        omega
    rw [hrs, List.append_nil] at h
    subst h
    refine gs_if (b := false) (EvT.is (et_or (et_test (ex_eqT (ex_var rfl) (ex_txt (l := [62]) (by decide +kernel)))) (fun _ => et_test (ex_b2 (ex_lenK (EvR.it (er_var rfl (by simp)) rfl)) ex_int))) ?_) (fun z => nomatch z) fun _ => g_nextU ?_
    · have h5 : all.length ≤ 4 := h4
      unfold jnAt
      split
      · simp; omega
      · simp; omega
    refine gs_ret (ex_tupleOf rfl (EvR.it (er_var rfl (by simp)) rfl)) hq
-- END parse_selector
abbrev s_weight : Stmt := topS 10
theorem sc_weight : FnScope ["steps", "many_marks", "names", "joint", "name", "marks"] ["steps"] (defScope s_weight) := ⟨rfl, rfl, rfl, by decide +kernel, rfl, by decide +kernel, by decide +kernel⟩
def mkN (all : List Stp) : Int := (all.map fun s : Stp => (s.2.2.length : Int)).sum
def nmB (s : Stp) : Bool := !decide (s.2.1 ∈ ([[42], []] : List (List Nat)))
def nmN (all : List Stp) : Int := ((all.filter nmB).length : Int)
def dWt (all : List Stp) : PyData := .tuple [.int (mkN all), .int (nmN all)]
def R_weight : List PyData → PyData → Prop := fun ds d => ∃ all : List Stp, all.length ≤ 1000 ∧ ds = [.tuple (all.map dStp)] ∧ d = dWt all
theorem R_weight_i {all : List Stp} (h : all.length ≤ 1000) : R_weight [.tuple (all.map dStp)] (dWt all) := ⟨all, h, rfl, rfl⟩
local macro_rules | `(tactic| walk_at "r2") => `(tactic| exact R_weight_i (by assumption))
theorem R_weight_len : ∀ ds d, R_weight ds d → ds.length = 1 := by
  intro ds d hh
  unfold R_weight at hh
  repeat (obtain ⟨_, hh⟩ := hh)
  subst_eqs
  rfl
theorem ok_weight {P : Program} {w : World} {K : PySem.W.Frag} {mg : Str → Option Value} {base : Heap} {f : Addr} {fd : FuncData} (F : FnP K "weight" s_weight f fd) (g0 : mg "weight" = some (.ref f)) (z_sum : mg "sum" = none) (z_len : mg "len" = none) : Cal P w K mg base 1 "weight" ["steps"] (spD K  R_weight) := by
  refine cal_mk F sc_weight g0 (spD_len R_weight_len) (fun _ _ _ _ _ _ us hl => match us, hl with | [_], _ => rfl) (fun cdv A outer s H vs Q E hr h => ⟨_,
    (pss_cons (ps_set (i := 1) sc_weight.nd rfl (by first | exact Or.inl rfl | exact Or.inr rfl) (pe_callB (DL.kSum (K := K) rfl) (by rfl) z_sum (by decide +kernel) (pa_cons (pe_lc (own := [("joint", 3), ("name", 4), ("marks", 5)]) (by rfl) sc_weight.nd (DL.kPiT (K := K) (pv 0)) (blkOk_by (own := [("joint", 3), ("name", 4), ("marks", 5)]) (N := ["steps", "many_marks", "names", "joint", "name", "marks"]) (sc := defScope s_weight) (by decide +kernel)) (fun _ _ _ _ _ => (DL.kTup (K := K) (n := 3) rfl (pgs_cons (pg_name (i := 3) sc_weight.nd rfl (by first | exact Or.inl rfl | exact Or.inr rfl)) (pgs_cons (pg_name (i := 4) sc_weight.nd rfl (by first | exact Or.inl rfl | exact Or.inr rfl)) (pgs_cons (pg_name (i := 5) sc_weight.nd rfl (by first | exact Or.inl rfl | exact Or.inr rfl)) pgs_nil))))) (fun _ _ _ _ _ => pts_nil) (fun _ _ _ _ _ => (pe_callB (DL.kLen (K := K)) (by rfl) z_len (by decide +kernel) (pa_cons (pv 5) pa_nil)))) pa_nil)))
     (pss_cons (ps_setLc (i := 2) (own := [("joint", 3), ("name", 4), ("marks", 5)]) (by rfl) sc_weight.nd rfl rfl (sw_true rfl rfl rfl (by decide +kernel)) (DL.kPiT (K := K) (pv 0)) (blkOk_by (own := [("joint", 3), ("name", 4), ("marks", 5)]) (N := ["steps", "many_marks", "names", "joint", "name", "marks"]) (sc := defScope s_weight) (by decide +kernel)) (fun _ _ _ _ _ => (DL.kTup (K := K) (n := 3) rfl (pgs_cons (pg_name (i := 3) sc_weight.nd rfl (by first | exact Or.inl rfl | exact Or.inr rfl)) (pgs_cons (pg_name (i := 4) sc_weight.nd rfl (by first | exact Or.inl rfl | exact Or.inr rfl)) (pgs_cons (pg_name (i := 5) sc_weight.nd rfl (by first | exact Or.inl rfl | exact Or.inr rfl)) pgs_nil))))) (fun _ _ _ _ _ => (pts_one (pt_cmpR (DL.kNotInSeq (K := K)) (pv 4) (pe_tup (pa_cons pe_str (pa_cons pe_str pa_nil))) (by rfl)))) (fun _ _ _ _ _ => (pv 4)))
     (pss_cons (ps_ret (pe_tup (pa_cons (pv 1) (pa_cons (pe_callB (DL.kLen (K := K)) (by rfl) z_len (by decide +kernel) (pa_cons (pv 2) pa_nil)) pa_nil))))
     pss_nil))), ?_⟩)
  refine run_spD h fun N ds d hR hq => ?_
  obtain ⟨all, hl, rfl, rfl⟩ := hR
  walk_at "env"
  refine' gs_asg (d := .int (mkN all)) (ex_sum (ns := all.map fun s : Stp => (s.2.2.length : Int)) (EvF.it (EvF.is (ef_lc (xs := all) (e := fun s => .i (dStp s)) (fun _ => true) (fun s : Stp => .int (s.2.2.length : Int)) (ew_tup (ex_var rfl)) (by simp) itD_map (fun _ => True.intro) (by omega) (fun fr lo up acc x hx => ⟨_, _, ?a1, tg_tup (ds := [dT x.1, dT x.2.1, .tuple (x.2.2.map dT)]) (tgs_cons tg_name (tgs_cons tg_name (tgs_cons tg_name tgs_nil))) rfl, et_yes, fun _ => EvX.is (ex_lenTK (ds := x.2.2.map dT) (ex_var rfl)) ?a2⟩)) ?a3))) ?_
  case a1 => intro j hj; simpa using hj
  case a2 => rw [List.length_map]
  case a3 => simp only [filt_all, List.map_map]; rfl
  walk_at "nf"
  refine' gs_asgF (EvF.is (ef_lc (xs := all) (e := fun s => .i (dStp s)) nmB (fun s : Stp => dT s.2.1) (ew_tup (ex_var rfl)) (by simp) itD_map (fun _ => True.intro) (by omega) (fun fr lo up acc x hx => ⟨_, _, ?b1, tg_tup (ds := [dT x.1, dT x.2.1, .tuple (x.2.2.map dT)]) (tgs_cons tg_name (tgs_cons tg_name (tgs_cons tg_name tgs_nil))) rfl, et_test (ex_notinTt (ls := [[42], []]) (ex_var rfl) (ex_tup (ea_cons (ex_txt (by decide +kernel)) (ea_cons (ex_txt (by decide +kernel)) ea_nil)) (Nat.le_of_ble_eq_true rfl))), fun _ => ex_var rfl⟩)) rfl) ?_
  case b1 => intro j hj; simpa using hj
  walk_at "nf"
  refine gs_ret (EvX.is (ex_tup (ea_cons (ex_var rfl) (ea_cons (ex_lenK (EvR.it (er_var rfl (by simp)) rfl)) ea_nil)) (Nat.le_of_ble_eq_true rfl)) ?_) hq
  unfold dWt nmN
  simp
-- END weight
abbrev s__law_next : Stmt := topS 13
theorem sc__law_next : FnScope ["state", "many", "cell", "drawn"] ["state", "many"] (defScope s__law_next) := ⟨rfl, rfl, rfl, by decide +kernel, rfl, by decide +kernel, by decide +kernel⟩
def R__law_next : List PyData → PyData → Prop := fun ds d => ∃ many n : Int, 0 < many ∧ many < 1073741824 ∧ 0 ≤ n ∧ n < many ∧ ds = [.int many] ∧ d = .int n
theorem R__law_next_i {many : Int} (h1 : 0 < many) (h2 : many < 1073741824) : ∃ d, R__law_next [.int many] d := ⟨.int 0, many, 0, h1, h2, Int.le_refl _, h1, rfl, rfl⟩
local macro_rules | `(tactic| walk_at "r2") => `(tactic| exact R__law_next_i (by omega) (by omega))
theorem R__law_next_len : ∀ ds d, R__law_next ds d → ds.length = 1 := by
  intro ds d hh
  unfold R__law_next at hh
  repeat (obtain ⟨_, hh⟩ := hh)
  subst_eqs
  rfl
theorem ok__law_next {P : Program} {w : World} {K : PySem.W.Frag} {mg : Str → Option Value} {base : Heap} {f : Addr} {fd : FuncData} (F : FnP K "_law_next" s__law_next f fd) (g0 : mg "_law_next" = some (.ref f)) (z_len : mg "len" = none) (z_int : mg "int" = none) : Cal P w K mg base 1 "_law_next" ["state", "many"] (DL.spM K  R__law_next) := by
  refine cal_mk F sc__law_next g0 (DL.spM_len R__law_next_len) (fun _ _ _ _ _ _ us hl => match us, hl with | [_, _], _ => rfl) (fun cdv A outer s H vs Q E hr h => ⟨_,
    (pss_cons (ps_if (pt_cmpR op_lt (pe_ix (DL.kIxL (K := K)) (pv 0) pe_int (fun _ _ => rfl)) (pv 1) (nomark _))
     (pss_cons (ps_if (pt_cmpR op_gt (pe_callB (DL.kLen (K := K)) (by rfl) z_len (by decide +kernel) (pa_cons (pe_ix (DL.kIxL (K := K)) (pv 0) pe_int (fun _ _ => rfl)) pa_nil)) pe_int (nomark _))
     (pss_cons (ps_set (i := 2) sc__law_next.nd rfl (by first | exact Or.inl rfl | exact Or.inr rfl) (DL.kBm (K := K) (pe_bm PySem.F.plainAttrs_list PySem.F.slot_list_pop PySem.F.type_list_pop mt_popAt (pe_ix (DL.kIxL (K := K)) (pv 0) pe_int (fun _ _ => rfl)) (pa_cons pe_int pa_nil))))
     (pss_cons (ps_asg (pe_ifExp (pt_cmpR op_ge (pv 2) pe_int (nomark _)) (pe_op op_mul pe_int (pv 2)) (pe_op op_sub (pe_op op_mul (pe_un un_neg pe_int) (pv 2)) pe_int)) (pg_sub (pv 0) pe_int set_list))
     (pss_cons (ps_asg (pe_op op_mod (pe_callTy call_int1 (by rfl) z_int (by decide +kernel) (pa_cons (pe_op op_add (pe_op op_mul (pe_ix (DL.kIxL (K := K)) (pv 0) pe_int (fun _ _ => rfl)) pe_int) (pe_ix (DL.kIxL (K := K)) (pv 0) pe_int (fun _ _ => rfl))) pa_nil)) pe_int) (pg_sub (pv 0) pe_int set_list))
     pss_nil)))
     (pss_cons (ps_asg (pe_op op_mod (pe_callTy call_int1 (by rfl) z_int (by decide +kernel) (pa_cons (pe_op op_add (pe_op op_mul (pe_ix (DL.kIxL (K := K)) (pv 0) pe_int (fun _ _ => rfl)) pe_int) pe_int) pa_nil)) pe_int) (pg_sub (pv 0) pe_int set_list))
     (pss_cons (ps_asg (pe_op op_mod (pe_callTy call_int1 (by rfl) z_int (by decide +kernel) (pa_cons (pe_op op_mul (pe_ix (DL.kIxL (K := K)) (pv 0) pe_int (fun _ _ => rfl)) (pe_ix (DL.kIxL (K := K)) (pv 0) pe_int (fun _ _ => rfl))) pa_nil)) pe_int) (pg_sub (pv 0) pe_int set_list))
     pss_nil)))
     pss_nil)
     pss_nil)
     (pss_cons (ps_set (i := 3) sc__law_next.nd rfl (by first | exact Or.inl rfl | exact Or.inr rfl) (pe_op op_mod (pe_callTy call_int1 (by rfl) z_int (by decide +kernel) (pa_cons (pe_ix (DL.kIxL (K := K)) (pv 0) pe_int (fun _ _ => rfl)) pa_nil)) (pv 1)))
     (pss_cons (ps_asg (pe_op op_fdiv (pe_ix (DL.kIxL (K := K)) (pv 0) pe_int (fun _ _ => rfl)) (pv 1)) (pg_sub (pv 0) pe_int set_list))
     (pss_cons (ps_ret (pv 3))
     pss_nil)))), ?_⟩)
  refine DL.run_spM h (List.cons_ne_nil _ _) fun N s b ds hR hq => ?_
  obtain ⟨d0, many, n0, h1, h2, h3, h4, rfl, rfl⟩ := hR
  simp only [DL.env1]
  walk_at "env"
  refine gs_open01 fun ns a m => ?_
  have tail := fun (u : TS) (hu : Go ⟨K, H, N, fun x => x = s ∨ x = b, [(.ref s, .r 1), (.ref b, .r 0)], 2⟩ [some (.r 1), some (.i (.int many)), none, none] [.nums, .stt 0] u (De Q)) => hu
  refine gs_ifJ [some (.r 1), some (.i (.int many)), none, none] [.nums, .stt 0] (b := decide (a < many)) (et_test (ex_b2 (ex_ixL (EvR.it (er_var rfl (Nat.lt_succ_self 1)) rfl) ex_int rfl) (ex_var rfl))) ?k1 (fun _ hk => ?k2) (fun _ hk => g_nextU (gs_close01 hk))
  case k1 =>
    refine gs_open01 fun ns a m => ?_
    refine gs_asg (d := .int (a % many)) (ex_i2c (ex_int1 rfl (ex_ixL (EvR.it (er_var rfl (Nat.lt_succ_self 1)) rfl) ex_int rfl)) (ex_var rfl) h1) ?_
    walk_at "nf"
    refine gs_setI (s := .i (.int (a / many))) (i := 1) (j := 1) (show EvX false _ _ _ _ _ from ex_i2c (ex_ixL (EvR.it (er_var rfl (Nat.lt_succ_self 1)) rfl) ex_int rfl) (ex_var rfl) ⟨h1, h2⟩) (er_var rfl (Nat.lt_succ_self 1)) rfl ex_int rfl ?_
    walk_at "nf"
    refine gs_close01 ?_
    exact gs_retM (em_x (P := fun d => d = .int (a % many)) (ex_var rfl) rfl) hq rfl rfl (fun d e => ⟨many, a % many, h1, h2, Int.emod_nonneg _ (by omega), Int.emod_lt_of_pos _ h1, rfl, e⟩)
  case k2 =>
    refine gs_if (b := decide (0 < ns.length)) (EvT.is (et_test (ex_b2 (ex_lenK (EvR.it (er_ixO (j := 0) (er_var rfl (Nat.lt_succ_self 1)) rfl ex_int rfl (Nat.succ_pos 1)) rfl)) ex_int)) (by simp)) (fun hb => ?_) (fun _ => ?_)
    · have hb : 0 < ns.length := of_decide_eq_true hb
      cases ns with
      | nil => cases hb
      | cons x ns =>
        refine gs_asgPop0 (d := .int x) (ss := (ns.map PyData.int).map SV.i) (er_ixO (j := 0) (er_var rfl (Nat.lt_succ_self 1)) rfl ex_int rfl (Nat.succ_pos 1)) rfl ex_int ?_
        walk_at "nf"
        refine gs_setI (s := .i (.int (if 0 ≤ x then 2 * x else -2 * x - 1))) (i := 1) (j := 1) (show EvX false _ _ _ _ _ from ex_if (b := decide (x ≥ 0)) (et_test (ex_b2 (ex_var rfl) ex_int)) (fun hx => EvX.is (ex_i2c ex_int (ex_var rfl) (Or.inl ⟨by decide, by decide⟩)) ?e1) (fun hx => EvX.is (ex_i2 (ex_i2c (ex_u ex_int) (ex_var rfl) (Or.inl ⟨by decide, by decide⟩)) ex_int) ?e2)) (er_var rfl (Nat.lt_succ_self 1)) rfl ex_int rfl ?_
        case e1 => rw [if_pos (by simpa using hx)]
        case e2 => rw [if_neg (by simpa using hx)]
        walk_at "nf"
        refine gs_setI (s := .i (.int ((m * 69621 + (if 0 ≤ x then 2 * x else -2 * x - 1)) % 2147483647))) (i := 2) (j := 2) (show EvX false _ _ _ _ _ from ex_i2c (ex_int1 rfl (ex_i2 (ex_i2c (ex_ixL (EvR.it (er_var rfl (Nat.lt_succ_self 1)) rfl) ex_int rfl) ex_int (Or.inr ⟨by decide, by decide⟩)) (ex_ixL (EvR.it (er_var rfl (Nat.lt_succ_self 1)) rfl) ex_int rfl))) ex_int (show (0 : Int) < 2147483647 by decide)) (er_var rfl (Nat.lt_succ_self 1)) rfl ex_int rfl ?_
        walk_at "nf"
        refine g_nextU (g_nextU (gs_weak (env' := [some (.r 1), some (.i (.int many)), none, none]) (os' := [.lst ((ns.map PyData.int).map SV.i), .lst [.r 0, .i (.int (if 0 ≤ x then 2 * x else -2 * x - 1)), .i (.int ((m * 69621 + (if 0 ≤ x then 2 * x else -2 * x - 1)) % 2147483647))]]) (by simp [WkE]) (WkO.refl _) (by simp [EnLt, SvLt]) (by simp [OsLt, SoLt, SvLt]) (Nat.le_refl 2) (gs_close01 hk)))
    · have b1 := Int.emod_nonneg (m * 48271 + 11) (show (2147483647 : Int) ≠ 0 by decide)
      have b2 := Int.emod_lt_of_pos (m * 48271 + 11) (show (0 : Int) < 2147483647 by decide)
      refine gs_setI (s := .i (.int ((m * 48271 + 11) % 2147483647))) (i := 2) (j := 2) (show EvX false _ _ _ _ _ from ex_i2c (ex_int1 rfl (ex_i2 (ex_i2c (ex_ixL (EvR.it (er_var rfl (Nat.lt_succ_self 1)) rfl) ex_int rfl) ex_int (Or.inr ⟨by decide, by decide⟩)) ex_int)) ex_int (show (0 : Int) < 2147483647 by decide)) (er_var rfl (Nat.lt_succ_self 1)) rfl ex_int rfl ?_
      walk_at "nf"
      generalize (m * 48271 + 11) % 2147483647 = z at *
      refine gs_setI (s := .i (.int (z * z % 1000003))) (i := 1) (j := 1) (show EvX false _ _ _ _ _ from ex_i2c (ex_int1 rfl (ex_i2c (ex_ixL (EvR.it (er_var rfl (Nat.lt_succ_self 1)) rfl) ex_int rfl) (ex_ixL (EvR.it (er_var rfl (Nat.lt_succ_self 1)) rfl) ex_int rfl) (Or.inl ⟨by omega, by omega⟩))) ex_int (show (0 : Int) < 1000003 by decide)) (er_var rfl (Nat.lt_succ_self 1)) rfl ex_int rfl ?_
      walk_at "nf"
      exact g_nextU (g_nextU (gs_close01 hk))
-- END _law_next
abbrev s__law_word : Stmt := topS 14
theorem sc__law_word : FnScope ["state", "size", "k"] ["state"] (defScope s__law_word) := ⟨rfl, rfl, rfl, by decide +kernel, rfl, by decide +kernel, by decide +kernel⟩
theorem draw {c : Cn} {env : Sy} {os : List SO} {tr : TA} {E : XK} {ks ki i : Nat} {many : Int} (hi : env[i]? = some (some (.r ks))) (hs : os[ks]? = some (.stt ki)) (hb : os[ki]? = some .nums) (h : EvA false c env os tr [.int many]) (h1 : 0 < many) (h2 : many < 1073741824) : EvM c env os (tCall (spM c.K R__law_next) [] E (tCons (tVar i) tr)) (fun d => ∃ i : Nat, d = .int (i : Int) ∧ (i : Int) < many) :=
  (em_call hi hs hb h (R__law_next_i h1 h2)).imp fun d ⟨m, n, a, b, c0, c1, e1, e2⟩ => by
    cases e1
    exact ⟨n.toNat, by rw [Int.toNat_of_nonneg c0]; exact e2, by rw [Int.toNat_of_nonneg c0]; exact c1⟩
def abc : List Nat := (List.range 26).map (97 + ·)
theorem abc_in {x : Nat} (h : x ∈ abc) : 97 ≤ x ∧ x ≤ 122 := by
  obtain ⟨a, ha, rfl⟩ := List.mem_map.mp h
  have := List.mem_range.mp ha
  omega
theorem sgn_list : ∀ {ds : List PyData}, (∀ d ∈ ds, ∃ x ∈ abc, d = dT [x]) → ∃ ls : List (List Nat), ds = ls.map dT ∧ ls.flatten.length = ds.length ∧ ls.length = ds.length ∧ (ls.map List.length).sum = ds.length ∧ ∀ x ∈ ls.flatten, 97 ≤ x ∧ x ≤ 122
  | [], _ => ⟨[], rfl, rfl, rfl, rfl, fun x hx => absurd hx List.not_mem_nil⟩
  | d :: ds, h => by
    obtain ⟨ls, h1, h2, h3, h4, h5⟩ := sgn_list fun e he => h e (List.mem_cons_of_mem _ he)
    obtain ⟨x, hx, rfl⟩ := h d (List.mem_cons_self ..)
    refine ⟨[x] :: ls, by rw [h1]; rfl, ?_, by rw [List.length_cons, List.length_cons, h3], by rw [List.map_cons, List.sum_cons, h4, List.length_cons]; simp; omega, ?_⟩
    · rw [List.flatten_cons, List.length_append, h2, List.length_cons]; simp; omega
    · intro y hy
      rw [List.flatten_cons] at hy
      rcases List.mem_append.mp hy with z | z
      · rw [List.mem_singleton.mp z]; exact abc_in hx
      · exact h5 y z
def R__law_word : List PyData → PyData → Prop := fun ds d => ∃ w : List Nat, isW w ∧ ds = [] ∧ d = dT w
theorem R__law_word_i : ∃ d, R__law_word [] d := ⟨dT [97], [97], ⟨by decide, by decide, fun x hx => by rw [List.mem_singleton.mp hx]; decide⟩, rfl, rfl⟩
local macro_rules | `(tactic| walk_at "r2") => `(tactic| exact R__law_word_i)
theorem R__law_word_len : ∀ ds d, R__law_word ds d → ds.length = 0 := by
  intro ds d hh
  unfold R__law_word at hh
  repeat (obtain ⟨_, hh⟩ := hh)
  subst_eqs
  rfl
theorem ok__law_word {P : Program} {w : World} {K : PySem.W.Frag} {mg : Str → Option Value} {base : Heap} {f : Addr} {fd : FuncData} (F : FnP K "_law_word" s__law_word f fd) (g0 : mg "_law_word" = some (.ref f)) (h__law_next : Cal P w K mg base 1 "_law_next" ["state", "many"] (DL.spM K  R__law_next)) (z_range : mg "range" = none) : Cal P w K mg base 2 "_law_word" ["state"] (DL.spM K  R__law_word) := by
  refine cal_mk F sc__law_word g0 (DL.spM_len R__law_word_len) (fun _ _ _ _ _ _ us hl => match us, hl with | [_], _ => rfl) (fun cdv A outer s H vs Q E hr h => ⟨_,
    (pss_cons (ps_set (i := 1) sc__law_word.nd rfl (by first | exact Or.inl rfl | exact Or.inr rfl) (pe_op op_add pe_int (DL.pe_cal h__law_next hr (by decide) (by rfl) pass0 (pa_cons (pv 0) (pa_cons pe_int pa_nil)))))
     (pss_cons (ps_if (pt_cmpR op_eq (DL.pe_cal h__law_next hr (by decide) (by rfl) pass0 (pa_cons (pv 0) (pa_cons pe_int pa_nil))) pe_int (nomark _))
     (pss_cons (ps_set (i := 1) sc__law_word.nd rfl (by first | exact Or.inl rfl | exact Or.inr rfl) (pe_op op_add pe_int (DL.pe_cal h__law_next hr (by decide) (by rfl) pass0 (pa_cons (pv 0) (pa_cons pe_int pa_nil)))))
     pss_nil)
     pss_nil)
     (pss_cons (ps_ret (DL.kJoin (K := K) pe_str (pe_lc (own := [("k", 2)]) (by rfl) sc__law_word.nd (pi_range1 (by rfl) z_range (pa_cons (pv 1) pa_nil)) (blkOk_by (own := [("k", 2)]) (N := ["state", "size", "k"]) (sc := defScope s__law_word) (by decide +kernel)) (fun _ _ _ _ _ => (pg_name (i := 2) sc__law_word.nd rfl (by first | exact Or.inl rfl | exact Or.inr rfl))) (fun _ _ _ _ _ => pts_nil) (fun _ _ _ _ _ => (pe_ix ix_str pe_str (DL.pe_cal h__law_next hr (by decide) (by rfl) pass0 (pa_cons (pv 0) (pa_cons pe_int pa_nil))) (fun _ _ => rfl))))))
     pss_nil))), ?_⟩)
  refine DL.run_spM h (List.cons_ne_nil _ _) fun N s b ds hR hq => ?_
  obtain ⟨d0, w0, hw0, rfl, rfl⟩ := hR
  simp only [DL.env1]
  walk_at "env"
  have size : ∀ {c : Cn} {env : Sy} {E : XK} (m : Nat), env[0]? = some (some (.r 1)) → 0 < m → m ≤ 12 → EvM c env [.nums, .stt 0] (tOp rAdd (tC (.int 1)) (tCall (spM c.K R__law_next) [] E (tCons (tVar 0) (tCons (tC (.int (m : Int))) tNil)))) (fun d => ∃ n : Nat, d = .int (n : Int) ∧ 1 ≤ n ∧ n ≤ 12) := fun m he h0 h1 => by
    refine em_op2 (draw (ks := 1) (ki := 0) (many := (m : Int)) he rfl rfl (ea_cons ex_int ea_nil) (by omega) (by omega)) fun v d hd => ?_
    obtain ⟨i, rfl, hi⟩ := hd
    exact em_x (ex_i2 ex_int (ex_pin (List.mem_cons_self ..))) ⟨1 + i, by push_cast; rfl, by omega, by omega⟩
  refine gs_asgM (size 12 rfl (by decide) (by decide)) fun d hd => ?_
  obtain ⟨n, rfl, hn1, hn2⟩ := hd
  walk_at "nf"
  refine gs_ifMJ (PB := fun _ => True) (fun n : Nat => 1 ≤ n ∧ n ≤ 12) (fun n => [some (.r 1), some (.i (.int (n : Int))), none]) (fun _ => [.nums, .stt 0]) (etm_test (em_op (draw (ks := 1) (ki := 0) rfl rfl rfl (ea_cons ex_int ea_nil) (by decide) (by decide)) fun v d hd => ?a1)) (fun n hn => ?a2) (fun _ hk => ?a3) (fun _ hk => g_nextU (hk n ⟨hn1, hn2⟩))
  case a1 =>
    obtain ⟨i, rfl, hi⟩ := hd
    exact em_x (ex_eqI (ex_pin (List.mem_cons_self ..)) ex_int) ⟨_, rfl, True.intro⟩
  case a3 =>
    refine gs_asgM (size 3 rfl (by decide) (by decide)) fun d hd => ?_
    obtain ⟨m, rfl, hm1, hm2⟩ := hd
    walk_at "nf"
    exact g_nextU (hk m ⟨hm1, hm2⟩)
  case a2 =>
  refine gs_retM (P := fun d => ∃ w, isW w ∧ d = dT w) (EvM.imp (em_join (PT := fun ls => ls.flatten.length = n ∧ (ls.map List.length).sum = n ∧ ∀ x ∈ ls.flatten, 97 ≤ x ∧ x ≤ 122) rfl (ex_txt (by decide +kernel)) (EvM.imp (em_lc (n := n) (PE := fun d => ∃ x ∈ abc, d = dT [x]) (EvW.is (ew_range1 (n := (n : Int)) (ea_cons (ex_var rfl) ea_nil) (by omega)) (by simp)) (fun _ => True.intro) (by omega) rfl (by simp [OsLt, SoLt, SvLt]) (by simp [EnLt, SvLt]) (fun fr lo up acc i hi => ⟨_, _, fun j hj => hj, rfl, tg_name, et_yes, em_ixS (l := abc) (ex_txt (by decide +kernel)) (EvM.imp (draw (ks := 1) (ki := 0) rfl rfl rfl (ea_cons ex_int ea_nil) (by decide) (by decide)) (fun d hd => ?b1)) (by decide)⟩)) (fun d hd => ?b2)) (fun ls hls => ?b3)) (fun d hd => ?b4)) hq rfl rfl (fun d hd => by obtain ⟨w, h1, h2⟩ := hd; exact ⟨w, h1, rfl, h2⟩)
  case b1 =>
    obtain ⟨i, rfl, hi⟩ := hd
    exact ⟨i, rfl, by have : abc.length = 26 := rfl; omega⟩
  case b2 =>
    obtain ⟨ds, rfl, hlen, hds⟩ := hd
    obtain ⟨ls, h1, h2, h3, h4, h5⟩ := sgn_list hds
    exact ⟨ls, by rw [h1], by rw [h2]; exact hlen, by rw [h4]; exact hlen, h5⟩
  case b3 => rw [hls.2.1]; omega
  case b4 =>
    obtain ⟨ls, ⟨h1, h2, h3⟩, rfl⟩ := hd
    exact ⟨ls.flatten, ⟨by rw [h1]; exact hn.1, by rw [h1]; exact hn.2, h3⟩, rfl⟩
-- END _law_word
abbrev s__law_step : Stmt := topS 15
theorem sc__law_step : FnScope ["state", "names", "signs", "kind", "name", "found", "more"] ["state", "names", "signs"] (defScope s__law_step) := ⟨rfl, rfl, rfl, by decide +kernel, rfl, by decide +kernel, by decide +kernel⟩
theorem pickW {c : Cn} {env : Sy} {os : List SO} {E : XK} {i : Nat} {xs : List (List Nat)} (h0 : env[0]? = some (some (.r 1))) (hs : os[1]? = some (.stt 0)) (hb : os[0]? = some .nums) (hi : env[i]? = some (some (.i (.list (xs.map dT))))) (hn : xs ≠ []) (hl : xs.length ≤ 1000) :
    EvM c env os (tOp (rIxL c.K) (tVar i) (tCall (spM c.K R__law_next) [] E (tCons (tVar 0) (tCons (tCB (rLenK c.K) (tCons (tVar i) tNil)) tNil)))) (fun d => ∃ x ∈ xs, d = dT x) := by
  have hpos : 0 < xs.length := List.length_pos_iff.mpr hn
  refine em_ixD (PP := fun ds => ds = xs.map dT) (em_x (ex_var hi) ⟨_, rfl, rfl⟩) (fun v ds hp => ?_) (fun ds hp y hy => ?_)
  · subst hp
    exact (draw (ks := 1) (ki := 0) (many := (xs.length : Int)) h0 hs hb (ea_cons (EvX.is (ex_lenK (EvX.it (ex_var hi))) (by rw [List.length_map, List.length_map])) ea_nil) (by omega) (by omega)).imp fun d ⟨j, e, hj⟩ => ⟨(j : Int), e, by omega, by rw [List.length_map]; exact hj⟩
  · subst hp
    obtain ⟨x, hx, rfl⟩ := List.mem_map.mp hy
    exact ⟨x, hx, rfl⟩
theorem marks_len : ∀ {ms : List (List Nat)}, (∀ m ∈ ms, isW m) → ((ms.map (fun m => 46 :: m)).flatten).length ≤ 13 * ms.length
  | [], _ => Nat.le_refl _
  | m :: ms, h => by
    have := marks_len fun x hx => h x (List.mem_cons_of_mem _ hx)
    have hm := (h m (List.mem_cons_self ..)).2.1
    rw [List.map_cons, List.flatten_cons, List.length_append, List.length_cons, List.length_cons]
    omega
def dNm (n : List Nat) (ms : List (List Nat)) : PyData := .tuple [dT n, .tuple (ms.map dT)]
def R__law_step : List PyData → PyData → Prop := fun ds d => ∃ (ns ss : List (List Nat)) (n : List Nat) (ms : List (List Nat)), ns ≠ [] ∧ ss ≠ [] ∧ (∀ x ∈ ns, isW x) ∧ (∀ x ∈ ss, isW x) ∧ ns.length ≤ 1000 ∧ ss.length ≤ 1000 ∧ stOk ([], n, ms) ∧ (stT ([], n, ms)).length ≤ 38 ∧ ds = [.list (ns.map dT), .list (ss.map dT)] ∧ d = dNm n ms
theorem R__law_step_i {ns ss : List (List Nat)} (h1 : ns ≠ []) (h2 : ss ≠ []) (h3 : ∀ x ∈ ns, isW x) (h4 : ∀ x ∈ ss, isW x) (h5 : ns.length ≤ 1000) (h6 : ss.length ≤ 1000) : ∃ d, R__law_step [.list (ns.map dT), .list (ss.map dT)] d := by
  obtain ⟨n, r, e⟩ := List.exists_cons_of_ne_nil h1
  have hw := h3 n (e ▸ List.mem_cons_self ..)
  exact ⟨_, ns, ss, n, [], h1, h2, h3, h4, h5, h6, Or.inr ⟨Or.inl hw, fun m hm => absurd hm List.not_mem_nil, List.nodup_nil⟩, by have := hw.2.1; show (n ++ []).length ≤ 38; rw [List.append_nil]; omega, rfl, rfl⟩
local macro_rules | `(tactic| walk_at "r2") => `(tactic| exact R__law_step_i)
theorem R__law_step_len : ∀ ds d, R__law_step ds d → ds.length = 2 := by
  intro ds d hh
  unfold R__law_step at hh
  repeat (obtain ⟨_, hh⟩ := hh)
  subst_eqs
  rfl
theorem ok__law_step {P : Program} {w : World} {K : PySem.W.Frag} {mg : Str → Option Value} {base : Heap} {f : Addr} {fd : FuncData} (F : FnP K "_law_step" s__law_step f fd) (g0 : mg "_law_step" = some (.ref f)) (h__law_next : Cal P w K mg base 1 "_law_next" ["state", "many"] (DL.spM K  R__law_next)) (z_len : mg "len" = none) (z_tuple : mg "tuple" = none) : Cal P w K mg base 2 "_law_step" ["state", "names", "signs"] (DL.spM K  R__law_step) := by
  refine cal_mk F sc__law_step g0 (DL.spM_len R__law_step_len) (fun _ _ _ _ _ _ us hl => match us, hl with | [_, _, _], _ => rfl) (fun cdv A outer s H vs Q E hr h => ⟨_,
    (pss_cons (ps_set (i := 3) sc__law_step.nd rfl (by first | exact Or.inl rfl | exact Or.inr rfl) (DL.pe_cal h__law_next hr (by decide) (by rfl) pass0 (pa_cons (pv 0) (pa_cons pe_int pa_nil))))
     (pss_cons (ps_set (i := 4) sc__law_step.nd rfl (by first | exact Or.inl rfl | exact Or.inr rfl) (pe_ix (DL.kIxL (K := K)) (pv 1) (DL.pe_cal h__law_next hr (by decide) (by rfl) pass0 (pa_cons (pv 0) (pa_cons (pe_callB (DL.kLen (K := K)) (by rfl) z_len (by decide +kernel) (pa_cons (pv 1) pa_nil)) pa_nil))) (fun _ _ => rfl)))
     (pss_cons (ps_if (pt_cmpR op_eq (pv 3) pe_int (nomark _))
     (pss_cons (ps_ret (pe_tup (pa_cons pe_str (pa_cons (pe_tup pa_nil) pa_nil))))
     pss_nil)
     pss_nil)
     (pss_cons (ps_if (pt_cmpR op_lt (pv 3) pe_int (nomark _))
     (pss_cons (ps_ret (pe_tup (pa_cons (pv 4) (pa_cons (pe_tup pa_nil) pa_nil))))
     pss_nil)
     pss_nil)
     (pss_cons (ps_set (i := 5) sc__law_step.nd rfl (by first | exact Or.inl rfl | exact Or.inr rfl) (pe_lst (pa_cons (pe_ix (DL.kIxL (K := K)) (pv 2) (DL.pe_cal h__law_next hr (by decide) (by rfl) pass0 (pa_cons (pv 0) (pa_cons (pe_callB (DL.kLen (K := K)) (by rfl) z_len (by decide +kernel) (pa_cons (pv 2) pa_nil)) pa_nil))) (fun _ _ => rfl)) pa_nil)))
     (pss_cons (ps_if (pt_cmpR op_eq (DL.pe_cal h__law_next hr (by decide) (by rfl) pass0 (pa_cons (pv 0) (pa_cons pe_int pa_nil))) pe_int (nomark _))
     (pss_cons (ps_set (i := 6) sc__law_step.nd rfl (by first | exact Or.inl rfl | exact Or.inr rfl) (pe_ix (DL.kIxL (K := K)) (pv 2) (DL.pe_cal h__law_next hr (by decide) (by rfl) pass0 (pa_cons (pv 0) (pa_cons (pe_callB (DL.kLen (K := K)) (by rfl) z_len (by decide +kernel) (pa_cons (pv 2) pa_nil)) pa_nil))) (fun _ _ => rfl)))
     (pss_cons (ps_if (pt_cmpR (DL.kNotInSeq (K := K)) (pv 6) (pv 5) (by rfl))
     (pss_cons (ps_expr (DL.kBm (K := K) (pe_bm PySem.F.plainAttrs_list PySem.F.slot_list_append PySem.F.type_list_append mt_append (pv 5) (pa_cons (pv 6) pa_nil))))
     pss_nil)
     pss_nil)
     pss_nil))
     pss_nil)
     (pss_cons (ps_if (pt_cmpR op_eq (pv 3) pe_int (nomark _))
     (pss_cons (ps_set (i := 4) sc__law_step.nd rfl (by first | exact Or.inl rfl | exact Or.inr rfl) pe_str)
     pss_nil)
     pss_nil)
     (pss_cons (ps_ret (pe_tup (pa_cons (pv 4) (pa_cons (pe_callTy (DL.kTupleOf (K := K)) (by rfl) z_tuple (by decide +kernel) (pa_cons (pv 5) pa_nil)) pa_nil))))
     pss_nil)))))))), ?_⟩)
  refine DL.run_spM h (List.cons_ne_nil _ _) fun N s b ds hR hq => ?_
  obtain ⟨d0, ns, ss, n0, ms0, h1, h2, h3, h4, h5, h6, _, _, rfl, rfl⟩ := hR
  simp only [DL.env1]
  walk_at "env"
  have hret : ∀ n ms, (n = [42] ∧ ms = []) ∨ ((isW n ∨ (n = [] ∧ ms ≠ [])) ∧ (∀ m ∈ ms, isW m) ∧ ms.Nodup ∧ ms.length ≤ 2) → R__law_step [.list (ns.map dT), .list (ss.map dT)] (dNm n ms) := fun n ms h => by
    refine ⟨ns, ss, n, ms, h1, h2, h3, h4, h5, h6, ?_, ?_, rfl, rfl⟩
    · rcases h with h | ⟨a, b, c, _⟩
      · exact Or.inl h
      · exact Or.inr ⟨a, b, c⟩
    · rcases h with h | ⟨a, b, c, e⟩
      · rw [h.1, h.2]; decide
      · show (n ++ (ms.map (fun m => 46 :: m)).flatten).length ≤ 38
        have := marks_len b
        rw [List.length_append]
        rcases a with a | a
        · have := a.2.1; omega
        · rw [a.1, List.length_nil]; omega
  refine gs_asgM (draw (ks := 1) (ki := 0) rfl rfl rfl (ea_cons ex_int ea_nil) (by decide) (by decide)) fun d hd => ?_
  obtain ⟨k, rfl, hk⟩ := hd
  walk_at "nf"
  refine gs_asgM (pickW (xs := ns) rfl rfl rfl rfl h1 h5) fun d hd => ?_
  obtain ⟨n, hn, rfl⟩ := hd
  walk_at "nf"
  refine gs_if (et_test (ex_eqI (ex_var rfl) ex_int)) (fun _ => ?_) (fun _ => g_nextU ?_)
  · exact gs_retM (P := fun d => d = dNm [42] []) (em_x (ex_tup (ea_cons (ex_txt (l := [42]) (by decide +kernel)) (ea_cons (ex_tup ea_nil (Nat.zero_le _)) ea_nil)) (Nat.le_of_ble_eq_true rfl)) rfl) hq rfl rfl (fun d e => by rw [e]; exact hret _ _ (Or.inl ⟨rfl, rfl⟩))
  refine gs_if (et_test (ex_b2 (ex_var rfl) ex_int)) (fun _ => ?_) (fun _ => g_nextU ?_)
  · exact gs_retM (P := fun d => d = dNm n []) (em_x (ex_tup (ea_cons (ex_var rfl) (ea_cons (ex_tup ea_nil (Nat.zero_le _)) ea_nil)) (Nat.le_of_ble_eq_true rfl)) rfl) hq rfl rfl (fun d e => by rw [e]; exact hret _ _ (Or.inr ⟨Or.inl (h3 n hn), fun m hm => absurd hm List.not_mem_nil, List.nodup_nil, Nat.zero_le _⟩))
  refine gs_asgMF (PP := fun ds => ∃ x ∈ ss, ds = [dT x]) (eam_cons (pickW (xs := ss) rfl rfl rfl rfl h2 h6) (fun v d hd => eam_a (ds := []) ea_nil ?a1)) (fun ds hds => ?a2) (fun ds hds => ?a3)
  case a1 => obtain ⟨x, hx, rfl⟩ := hd; exact ⟨x, hx, rfl⟩
  case a2 => obtain ⟨x, hx, rfl⟩ := hds; exact Nat.le_of_ble_eq_true rfl
  case a3 =>
  obtain ⟨x, hx, rfl⟩ := hds
  walk_at "nf"
  refine gs_ifMJ (PB := fun _ => True) (α := List (List Nat)) (fun ms => ms ≠ [] ∧ (∀ m ∈ ms, isW m) ∧ ms.Nodup ∧ ms.length ≤ 2) (fun _ => [some (.r 1), some (.i (.list (ns.map dT))), some (.i (.list (ss.map dT))), some (.i (.int (k : Int))), some (.i (dT n)), some (.r 2), none]) (fun ms => [.nums, .stt 0, .lst ((ms.map dT).map SV.i)]) (etm_test (em_op (draw (ks := 1) (ki := 0) rfl rfl rfl (ea_cons ex_int ea_nil) (by decide) (by decide)) fun v d hd => ?b1)) (fun ms hms => ?b2) (fun _ hk => ?b3) (fun _ hk => g_nextU (hk [x] ⟨by simp, fun m hm => by rw [List.mem_singleton.mp hm]; exact h4 x hx, by simp, by simp⟩))
  case b1 =>
    obtain ⟨i, rfl, hi⟩ := hd
    exact em_x (ex_eqI (ex_pin (List.mem_cons_self ..)) ex_int) ⟨_, rfl, True.intro⟩
  case b3 =>
    refine gs_asgM (pickW (xs := ss) rfl rfl rfl rfl h2 h6) fun d hd => ?_
    obtain ⟨y, hy, rfl⟩ := hd
    walk_at "nf"
    have weak : ∀ (ms : List (List Nat)) (u : TS) (D : Ends), Go ⟨K, H, N, fun a => a = s ∨ a = b, [(.ref s, .r 1), (.ref b, .r 0)], 2⟩ _ [.nums, .stt 0, .lst ((ms.map dT).map SV.i)] u D → Go ⟨K, H, N, fun a => a = s ∨ a = b, [(.ref s, .r 1), (.ref b, .r 0)], 2⟩ _ [.nums, .stt 0, .lst ((ms.map dT).map SV.i)] u D := fun ms u D h => gs_weak (env := [some (.r 1), some (.i (.list (ns.map dT))), some (.i (.list (ss.map dT))), some (.i (.int (k : Int))), some (.i (dT n)), some (.r 2), some (.i (dT y))]) (env' := [some (.r 1), some (.i (.list (ns.map dT))), some (.i (.list (ss.map dT))), some (.i (.int (k : Int))), some (.i (dT n)), some (.r 2), none]) (by simp [WkE]) (WkO.refl _) (by simp [EnLt, SvLt]) (by walk_at "osl") (by simp) h
    refine gs_if (et_test (ex_notinLt (ls := [x]) (ex_var rfl) (EvR.it (er_var rfl (by simp)) rfl))) (fun hb => ?_) (fun _ => ?_)
    · refine gs_app (k := 2) (er_var rfl (by simp)) rfl (s := .i (dT y)) (show EvX false _ _ _ _ _ from ex_var rfl) (by simp) ?_
      refine g_nextU (g_nextU (weak [x, y] _ _ (hk [x, y] ⟨by simp, fun m hm => ?_, ?_, by simp⟩)))
      · rcases List.mem_cons.mp hm with z | z
        · rw [z]; exact h4 x hx
        · rw [List.mem_singleton.mp z]; exact h4 y hy
      · have : y ≠ x := by simpa using hb
        simp [Ne.symm this]
    · exact g_nextU (g_nextU (weak [x] _ _ (hk [x] ⟨by simp, fun m hm => by rw [List.mem_singleton.mp hm]; exact h4 x hx, by simp, by simp⟩)))
  case b2 =>
  refine gs_ifJA (α := List Nat) (fun n => isW n ∨ n = []) (fun n => [some (.r 1), some (.i (.list (ns.map dT))), some (.i (.list (ss.map dT))), some (.i (.int (k : Int))), some (.i (dT n)), some (.r 2), none]) (fun _ => [.nums, .stt 0, .lst ((ms.map dT).map SV.i)]) (et_test (ex_eqI (ex_var rfl) ex_int)) (fun m hm => ?c1) (fun _ hk => ?c2) (fun _ hk => g_nextU (hk n (Or.inl (h3 n hn))))
  case c2 =>
    refine gs_asg (d := dT []) (ex_txt (by decide +kernel)) ?_
    walk_at "nf"
    exact g_nextU (hk [] (Or.inr rfl))
  case c1 =>
  exact gs_retM (P := fun d => d = dNm m ms) (em_x (ex_tup (ea_cons (ex_var rfl) (ea_cons (ex_tupleOf rfl (EvR.it (er_var rfl (by simp)) rfl)) ea_nil)) (Nat.le_of_ble_eq_true rfl)) rfl) hq rfl rfl (fun d e => by rw [e]; exact hret _ _ (Or.inr ⟨hm.imp id fun z => ⟨z, hms.1⟩, hms.2.1, hms.2.2.1, hms.2.2.2⟩))
-- END _law_step
abbrev s__law_written : Stmt := topS 17
theorem sc__law_written : FnScope ["steps", "text", "joint", "name", "found", "mark"] ["steps"] (defScope s__law_written) := ⟨rfl, rfl, rfl, by decide +kernel, rfl, by decide +kernel, by decide +kernel⟩
def jnOk (s : Stp) : Prop := s.1 = [] ∨ s.1 = [32] ∨ s.1 = [62]
def R__law_written : List PyData → PyData → Prop := fun ds d => ∃ all : List Stp, (∀ s ∈ all, jnOk s) ∧ (wrT all).length ≤ 100000 ∧ ds = [.list (all.map dStp)] ∧ d = dT (wrT all)
theorem R__law_written_i {all : List Stp} (h : ∀ s ∈ all, jnOk s) (hl : (wrT all).length ≤ 100000) : R__law_written [.list (all.map dStp)] (dT (wrT all)) := ⟨all, h, hl, rfl, rfl⟩
local macro_rules | `(tactic| walk_at "r2") => `(tactic| exact R__law_written_i (by assumption) (by assumption))
theorem R__law_written_len : ∀ ds d, R__law_written ds d → ds.length = 1 := by
  intro ds d hh
  unfold R__law_written at hh
  repeat (obtain ⟨_, hh⟩ := hh)
  subst_eqs
  rfl
theorem ok__law_written {P : Program} {w : World} {K : PySem.W.Frag} {mg : Str → Option Value} {base : Heap} {f : Addr} {fd : FuncData} (F : FnP K "_law_written" s__law_written f fd) (g0 : mg "_law_written" = some (.ref f)) : Cal P w K mg base 1 "_law_written" ["steps"] (spD K  R__law_written) := by
  refine cal_mk F sc__law_written g0 (spD_len R__law_written_len) (fun _ _ _ _ _ _ us hl => match us, hl with | [_], _ => rfl) (fun cdv A outer s H vs Q E hr h => ⟨_,
    (pss_cons (ps_set (i := 1) sc__law_written.nd rfl (by first | exact Or.inl rfl | exact Or.inr rfl) pe_str)
     (pss_cons (ps_for PassesOwn.never rfl (DL.kPiL (K := K) (pv 0)) (DL.kTup (K := K) (n := 3) rfl (pgs_cons (pg_name (i := 2) sc__law_written.nd rfl (by first | exact Or.inl rfl | exact Or.inr rfl)) (pgs_cons (pg_name (i := 3) sc__law_written.nd rfl (by first | exact Or.inl rfl | exact Or.inr rfl)) (pgs_cons (pg_name (i := 4) sc__law_written.nd rfl (by first | exact Or.inl rfl | exact Or.inr rfl)) pgs_nil))))
     (pss_cons (ps_set (i := 1) sc__law_written.nd rfl (by first | exact Or.inl rfl | exact Or.inr rfl) (pe_op op_add_str (pe_op op_add_str (pv 1) (pe_dget (DL.u1 hr.units) (pe_disp (pps_cons pe_str pe_str (pps_cons pe_str pe_str (pps_cons pe_str pe_str pps_nil))) (by rfl) (by rfl) (by simp) (by decide)) (pv 2) (fun _ _ => rfl))) (pv 3)))
     (pss_cons (ps_for PassesOwn.never rfl (DL.kPiT (K := K) (pv 4)) (pg_name (i := 5) sc__law_written.nd rfl (by first | exact Or.inl rfl | exact Or.inr rfl))
     (pss_cons (ps_set (i := 1) sc__law_written.nd rfl (by first | exact Or.inl rfl | exact Or.inr rfl) (pe_op op_add_str (pe_op op_add_str (pv 1) pe_str) (pv 5)))
     pss_nil))
     pss_nil)))
     (pss_cons (ps_ret (pv 1))
     pss_nil))), ?_⟩)
  refine run_spD h fun N ds d hR hq => ?_
  obtain ⟨all, hj, hl, rfl, rfl⟩ := hR
  walk_at "env"
  refine gs_asg (d := dT []) (ex_txt (by decide +kernel)) ?_
  walk_at "nf"
  refine' gs_forD (xs := all) (f := dStp) (fun pre => [some (.i (.list (all.map dStp))), some (.i (dT (wrT pre))), none, none, none, none]) (fun _ => []) (ex_var rfl) (fun c' _ ad σ H ok => ok) (fun fr up pre x post hx => ⟨_, _, tg_tup (ds := [dT x.1, dT x.2.1, .tuple (x.2.2.map dT)]) (tgs_cons tg_name (tgs_cons tg_name (tgs_cons tg_name tgs_nil))) rfl, ?b1⟩) ?b2
  case b1 =>
    walk_at "nf"
    have hlx : (wrT pre).length + ((jnT x.1).length + (stT x).length) ≤ 100000 := by
      rw [hx, wrT_app] at hl
      have e : wrT (x :: post) = jnT x.1 ++ stT x ++ wrT post := rfl
      rw [e] at hl
      simp only [List.length_append] at hl
      omega
    have hst : stT x = x.2.1 ++ (x.2.2.map (fun m => 46 :: m)).flatten := rfl
    have hls : (stT x).length = x.2.1.length + ((x.2.2.map (fun m => 46 :: m)).flatten).length := by rw [hst, List.length_append]
    refine' gs_asg (d := dT (wrT pre ++ jnT x.1 ++ x.2.1)) (ex_catS (a := wrT pre ++ jnT x.1) rfl (ex_catS rfl (ex_var rfl) (ex_dgetF (kk := .inr (sT x.1)) (ef_disp (kvs := [(.inr (sT []), dT []), (.inr (sT [32]), dT [32]), (.inr (sT [62]), dT [32, 62, 32])]) (ep_cons (ex_txt (by decide +kernel)) (ex_txt (by decide +kernel)) rfl (ep_cons (ex_txt (by decide +kernel)) (ex_txt (by decide +kernel)) rfl (ep_cons (ex_txt (by decide +kernel)) (ex_txt (by decide +kernel)) rfl ep_nil))) (by decide +kernel) (by decide)) (ex_var rfl) ?c1) ?c2) (ex_var rfl) ?c3) ?_
    case c1 =>
      rcases hj x (hx ▸ List.mem_append_right _ (List.mem_cons_self ..)) with z | z | z <;> rw [z] <;> rfl
    case c2 => omega
    case c3 => rw [List.length_append]; omega
    walk_at "nf"
    have mapp : ∀ a b : List (List Nat), ((a ++ b).map (fun m => 46 :: m)).flatten = (a.map (fun m => 46 :: m)).flatten ++ (b.map (fun m => 46 :: m)).flatten := fun a b => by rw [List.map_append, List.flatten_append]
    refine' gs_forTu (xs := x.2.2) (f := dT) (fun p => [some (.i (.list (all.map dStp))), some (.i (dT (wrT pre ++ jnT x.1 ++ x.2.1 ++ (p.map (fun m => 46 :: m)).flatten))), none, none, some (.i (.tuple (x.2.2.map dT))), none]) (fun _ => []) (ex_var rfl) ?d0 (fun fr up p m q hq => ⟨_, _, tg_name, ?d1⟩) ?d2
    case d0 =>
      intro c' _ ad σ H ok
      exact ok.weak (by simp [WkE]) (by simp [WkO]) (by simp [EnLt, SvLt]) True.intro ok.low
    case d1 =>
      walk_at "nf"
      have hm : ((p.map (fun m => 46 :: m)).flatten).length + (1 + m.length) ≤ ((x.2.2.map (fun m => 46 :: m)).flatten).length := by
        rw [hq, mapp, List.map_cons, List.flatten_cons]
        simp only [List.length_append, List.length_cons]
        omega
      refine' gs_asg (d := dT (wrT pre ++ jnT x.1 ++ x.2.1 ++ ((p ++ [m]).map (fun m => 46 :: m)).flatten)) (EvX.is (ex_catS rfl (ex_catS rfl (ex_var rfl) (ex_txt (l := [46]) (by decide +kernel)) ?e1) (ex_var rfl) ?e2) ?e3) ?_
      case e1 => simp only [List.length_append, List.length_cons, List.length_nil]; omega
      case e2 => simp only [List.length_append, List.length_cons, List.length_nil]; omega
      case e3 => rw [mapp]; simp
      walk_at "nf"
      walk_at "wk"
    case d2 =>
      have e : wrT (pre ++ [x]) = wrT pre ++ jnT x.1 ++ x.2.1 ++ (x.2.2.map (fun m => 46 :: m)).flatten := by
        rw [wrT_app]
        show wrT pre ++ (jnT x.1 ++ stT x ++ []) = _
        rw [hst]
        simp only [List.append_nil, List.append_assoc]
      rw [e]
      walk_at "wk"
  case b2 =>
  refine gs_ret (ex_var rfl) hq
-- END _law_written
abbrev s__law_steps : Stmt := topS 16
theorem sc__law_steps : FnScope ["state", "names", "signs", "steps", "k", "name", "found", "joint"] ["state", "names", "signs"] (defScope s__law_steps) := ⟨rfl, rfl, rfl, by decide +kernel, rfl, by decide +kernel, by decide +kernel⟩
theorem stepsOk_snoc {all : List Stp} {x : Stp} (h : stepsOk all) (hx : folOk x) : stepsOk (all ++ [x]) := by
  cases all with
  | nil => exact h.elim
  | cons s r =>
    refine ⟨h.1, h.2.1, fun y hy => ?_⟩
    rcases List.mem_append.mp hy with z | z
    · exact h.2.2 y z
    · rw [List.mem_singleton.mp z]; exact hx
theorem stepsOk_jn {all : List Stp} (h : stepsOk all) : ∀ s ∈ all, jnOk s := by
  cases all with
  | nil => exact h.elim
  | cons s r =>
    intro y hy
    rcases List.mem_cons.mp hy with z | z
    · rw [z]; exact Or.inl h.1
    · exact Or.inr (h.2.2 y z).1
theorem jnT_len {s : Stp} (h : jnOk s) : (jnT s.1).length ≤ 3 := by
  rcases h with h | h | h <;> rw [h] <;> decide
inductive SI (ns ss : List (List Nat)) (i : Nat) : Sy → List SO → Prop
  | mk (all : List Stp) (h0 : i = 0 → all = []) (h1 : 0 < i → stepsOk all) (hl : all.length ≤ i) (hw : (wrT all).length ≤ 100) : SI ns ss i [some (.r 1), some (.i (.list (ns.map dT))), some (.i (.list (ss.map dT))), some (.r 2), none, none, none, none] [.nums, .stt 0, .lst ((all.map dStp).map SV.i)]
def R__law_steps : List PyData → PyData → Prop := fun ds d => ∃ (ns ss : List (List Nat)) (all : List Stp), ns ≠ [] ∧ ss ≠ [] ∧ (∀ x ∈ ns, isW x) ∧ (∀ x ∈ ss, isW x) ∧ ns.length ≤ 1000 ∧ ss.length ≤ 1000 ∧ stepsOk all ∧ (wrT all).length ≤ 100 ∧ all.length ≤ 4 ∧ ds = [.list (ns.map dT), .list (ss.map dT)] ∧ d = .list (all.map dStp)
theorem R__law_steps_i {ns ss : List (List Nat)} (h1 : ns ≠ []) (h2 : ss ≠ []) (h3 : ∀ x ∈ ns, isW x) (h4 : ∀ x ∈ ss, isW x) (h5 : ns.length ≤ 1000) (h6 : ss.length ≤ 1000) : ∃ d, R__law_steps [.list (ns.map dT), .list (ss.map dT)] d := by
  obtain ⟨n, r, e⟩ := List.exists_cons_of_ne_nil h1
  have hw := h3 n (e ▸ List.mem_cons_self ..)
  refine ⟨_, ns, ss, [([], n, [])], h1, h2, h3, h4, h5, h6, ⟨rfl, Or.inr ⟨Or.inl hw, fun m hm => absurd hm List.not_mem_nil, List.nodup_nil⟩, fun x hx => absurd hx List.not_mem_nil⟩, ?_, by simp, rfl, rfl⟩
  have e : wrT [([], n, [])] = n := by simp [wrT, jnT, stT]
  rw [e]
  have := hw.2.1
  omega
local macro_rules | `(tactic| walk_at "r2") => `(tactic| exact R__law_steps_i)
theorem R__law_steps_len : ∀ ds d, R__law_steps ds d → ds.length = 2 := by
  intro ds d hh
  unfold R__law_steps at hh
  repeat (obtain ⟨_, hh⟩ := hh)
  subst_eqs
  rfl
theorem ok__law_steps {P : Program} {w : World} {K : PySem.W.Frag} {mg : Str → Option Value} {base : Heap} {f : Addr} {fd : FuncData} (F : FnP K "_law_steps" s__law_steps f fd) (g0 : mg "_law_steps" = some (.ref f)) (h__law_step : Cal P w K mg base 2 "_law_step" ["state", "names", "signs"] (DL.spM K  R__law_step)) (h__law_next : Cal P w K mg base 1 "_law_next" ["state", "many"] (DL.spM K  R__law_next)) (h__law_written : Cal P w K mg base 1 "_law_written" ["steps"] (spD K  R__law_written)) (z_range : mg "range" = none) (z_len : mg "len" = none) : Cal P w K mg base 3 "_law_steps" ["state", "names", "signs"] (DL.spM K  R__law_steps) := by
  refine cal_mk F sc__law_steps g0 (DL.spM_len R__law_steps_len) (fun _ _ _ _ _ _ us hl => match us, hl with | [_, _, _], _ => rfl) (fun cdv A outer s H vs Q E hr h => ⟨_,
    (pss_cons (ps_set (i := 3) sc__law_steps.nd rfl (by first | exact Or.inl rfl | exact Or.inr rfl) (pe_lst pa_nil))
     (pss_cons (ps_for PassesOwn.never rfl (pi_range1 (by rfl) z_range (pa_cons (pe_op op_add pe_int (DL.pe_cal h__law_next hr (by decide) (by rfl) pass0 (pa_cons (pv 0) (pa_cons pe_int pa_nil)))) pa_nil)) (pg_name (i := 4) sc__law_steps.nd rfl (by first | exact Or.inl rfl | exact Or.inr rfl))
     (pss_cons (ps_asg (DL.pe_cal h__law_step hr (by decide) (by rfl) pass0 (pa_cons (pv 0) (pa_cons (pv 1) (pa_cons (pv 2) pa_nil)))) (DL.kTup (K := K) (n := 2) rfl (pgs_cons (pg_name (i := 5) sc__law_steps.nd rfl (by first | exact Or.inl rfl | exact Or.inr rfl)) (pgs_cons (pg_name (i := 6) sc__law_steps.nd rfl (by first | exact Or.inl rfl | exact Or.inr rfl)) pgs_nil))))
     (pss_cons (ps_set (i := 7) sc__law_steps.nd rfl (by first | exact Or.inl rfl | exact Or.inr rfl) pe_str)
     (pss_cons (ps_if (pt_cmpR op_gt (pv 4) pe_int (nomark _))
     (pss_cons (ps_set (i := 7) sc__law_steps.nd rfl (by first | exact Or.inl rfl | exact Or.inr rfl) (pe_ix (DL.kIxL (K := K)) (pe_lst (pa_cons pe_str (pa_cons pe_str pa_nil))) (DL.pe_cal h__law_next hr (by decide) (by rfl) pass0 (pa_cons (pv 0) (pa_cons pe_int pa_nil))) (fun _ _ => rfl)))
     pss_nil)
     pss_nil)
     (pss_cons (ps_if (pt_cmpR op_le (pe_callB call_len_str (by rfl) z_len (by decide +kernel) (pa_cons (DL.pe_cal h__law_written hr (by decide) (by rfl) pass0 (pa_cons (pe_op op_cat (pv 3) (pe_lst (pa_cons (pe_tup (pa_cons (pv 7) (pa_cons (pv 5) (pa_cons (pv 6) pa_nil)))) pa_nil))) pa_nil)) pa_nil)) pe_int (nomark _))
     (pss_cons (ps_expr (DL.kBm (K := K) (pe_bm PySem.F.plainAttrs_list PySem.F.slot_list_append PySem.F.type_list_append mt_append (pv 3) (pa_cons (pe_tup (pa_cons (pv 7) (pa_cons (pv 5) (pa_cons (pv 6) pa_nil)))) pa_nil))))
     pss_nil)
     pss_nil)
     pss_nil)))))
     (pss_cons (ps_ret (pv 3))
     pss_nil))), ?_⟩)
  refine DL.run_spM h (List.cons_ne_nil _ _) fun N s b ds hR hq => ?_
  obtain ⟨d0, ns, ss, all0, h1, h2, h3, h4, h5, h6, _, _, _, rfl, rfl⟩ := hR
  simp only [DL.env1]
  walk_at "env"
  refine gs_asgF (o := .lst []) (ef_lst eas_nil (Nat.zero_le _)) ?_
  walk_at "nf"
  refine gs_forN (fun n => 1 ≤ n ∧ n ≤ 4) (SI ns ss) (ewm_range1 (em_op2 (draw (ks := 1) (ki := 0) rfl rfl rfl (ea_cons ex_int ea_nil) (by decide) (by decide)) fun v d hd => ?a1)) (SI.mk [] (fun _ => rfl) (fun h => absurd h (Nat.lt_irrefl _)) (Nat.le_refl _) (Nat.zero_le _)) (fun _ _ _ _ => True.intro) (fun fr up n i e o hn hi hI => ?a2) (fun n e o hn hI => ?a3)
  case a1 =>
    obtain ⟨j, rfl, hj⟩ := hd
    exact em_x (ex_i2 ex_int (ex_pin (List.mem_cons_self ..))) ⟨1 + (j : Int), rfl, by omega, by omega, by omega, by omega⟩
  case a3 =>
    cases hI with
    | mk all g0 g1 gl gw =>
      refine gs_own (i := 3) (k := 2) rfl rfl ?_
      walk_at "nf"
      exact gs_retM (P := fun d => d = .list (all.map dStp)) (em_x (ex_var rfl) rfl) hq rfl rfl (fun d e => ⟨ns, ss, all, h1, h2, h3, h4, h5, h6, g1 (by omega), gw, by omega, rfl, e⟩)
  case a2 =>
  cases hI with
  | mk all g0 g1 gl gw =>
    refine ⟨_, _, tg_name, ?_⟩
    walk_at "nf"
    refine gs_asgMT (em_call (R := R__law_step) (ks := 1) (ki := 0) rfl rfl rfl (ea_cons (ex_var rfl) (ea_cons (ex_var rfl) ea_nil)) (R__law_step_i h1 h2 h3 h4 h5 h6)) fun d hd => ?_
    obtain ⟨_, _, n0, ms, _, _, _, _, _, _, hok, hlen, e1, rfl⟩ := hd
    refine ⟨_, _, tg_tup (ds := [dT n0, .tuple (ms.map dT)]) (tgs_cons tg_name (tgs_cons tg_name tgs_nil)) rfl, ?_⟩
    walk_at "nf"
    refine gs_asg (d := dT []) (ex_txt (by decide +kernel)) ?_
    walk_at "nf"
    refine gs_ifJA (α := List Nat) (fun j => (i = 0 → j = []) ∧ (0 < i → j = [32] ∨ j = [62])) (fun j => [some (.r 1), some (.i (.list (ns.map dT))), some (.i (.list (ss.map dT))), some (.r 2), some (.i (.int (i : Int))), some (.i (dT n0)), some (.i (.tuple (ms.map dT))), some (.i (dT j))]) (fun _ => [.nums, .stt 0, .lst ((all.map dStp).map SV.i)]) (et_test (ex_b2 (ex_var rfl) ex_int)) (fun j hj => ?b1) (fun hb hk => ?b2) (fun hb hk => g_nextU (hk [] ⟨fun _ => rfl, fun h => absurd (of_decide_eq_false hb) (by simp; omega)⟩))
    case b2 =>
      have hb : (0 : Int) < (i : Int) := of_decide_eq_true hb
      refine gs_asgM (P := fun d => ∃ j, d = dT j ∧ (j = [32] ∨ j = [62])) (em_ixD (PP := fun ds => ds = [dT [32], dT [62]]) (em_x (EvF.ev (ds := [dT [32], dT [62]]) (ef_lst (EvA.ss (ds := [dT [32], dT [62]]) (ea_cons (ex_txt (by decide +kernel)) (ea_cons (ex_txt (by decide +kernel)) ea_nil))) (Nat.le_of_ble_eq_true rfl))) ⟨_, rfl, rfl⟩) (fun v ds hp => ?c1) (fun ds hp y hy => ?c2)) fun d hd => ?_
      case c1 =>
        subst hp
        exact (draw (ks := 1) (ki := 0) (many := 2) rfl rfl rfl (ea_cons ex_int ea_nil) (by decide) (by decide)).imp fun d ⟨j, e, hj⟩ => ⟨(j : Int), e, by omega, by simpa using hj⟩
      case c2 =>
        subst hp
        rcases List.mem_cons.mp hy with z | z
        · exact ⟨_, z, Or.inl rfl⟩
        · exact ⟨_, List.mem_singleton.mp z, Or.inr rfl⟩
      obtain ⟨j, rfl, hj⟩ := hd
      walk_at "nf"
      exact g_nextU (hk j ⟨fun z => by omega, fun _ => hj⟩)
    case b1 =>
      have hx : stOk (j, n0, ms) := hok
      have hjn : jnOk (j, n0, ms) := by
        by_cases z : i = 0
        · exact Or.inl (hj.1 z)
        · exact Or.inr (hj.2 (by omega))
      have hall : ∀ s ∈ all ++ [(j, n0, ms)], jnOk s := fun s hs => by
        rcases List.mem_append.mp hs with z | z
        · by_cases z2 : i = 0
          · rw [g0 z2] at z; cases z
          · exact stepsOk_jn (g1 (by omega)) s z
        · rw [List.mem_singleton.mp z]; exact hjn
      have hwl : (wrT (all ++ [(j, n0, ms)])).length ≤ (wrT all).length + ((jnT j).length + 38) := by
        have e : wrT (all ++ [(j, n0, ms)]) = wrT all ++ (jnT j ++ stT (j, n0, ms)) := by
          rw [wrT_app]
          show wrT all ++ (jnT j ++ stT (j, n0, ms) ++ []) = _
          rw [List.append_nil]
        have e2 : (stT (j, n0, ms)).length ≤ 38 := hlen
        rw [e, List.length_append, List.length_append]
        omega
      have hj3 : (jnT j).length ≤ 3 := jnT_len hjn
      have hnew : stepsOk (all ++ [(j, n0, ms)]) := by
        by_cases z : i = 0
        · rw [g0 z]; exact ⟨hj.1 z, hx, fun y hy => absurd hy List.not_mem_nil⟩
        · exact stepsOk_snoc (g1 (by omega)) ⟨hj.2 (by omega), hx⟩
      refine gs_if (et_test (ex_b2 (ex_lenS rfl (ex_call (ea_cons (EvF.ev (ds := (all ++ [(j, n0, ms)]).map dStp) (EvF.is (ef_catOF (er_var (k := 2) rfl (by simp)) rfl (ef_lst (EvA.ss (ds := [dStp (j, n0, ms)]) (ea_cons (ex_tup (ea_cons (ex_var rfl) (ea_cons (ex_var rfl) (ea_cons (ex_var rfl) ea_nil))) (Nat.le_of_ble_eq_true rfl)) ea_nil)) (Nat.le_of_ble_eq_true rfl)) (by simp; omega)) (by simp))) ea_nil) (R__law_written_i hall (by omega))) (by omega)) ex_int)) (fun hb => ?d1) (fun hb => ?d2)
      case d1 =>
        have hb : (((wrT (all ++ [(j, n0, ms)])).length : Nat) : Int) ≤ 100 := of_decide_eq_true hb
        refine gs_app (k := 2) (er_var rfl (by simp)) rfl (s := .i (dStp (j, n0, ms))) (show EvX false _ _ _ _ _ from ex_tup (ea_cons (ex_var rfl) (ea_cons (ex_var rfl) (ea_cons (ex_var rfl) ea_nil))) (Nat.le_of_ble_eq_true rfl)) (by simp; omega) ?_
        refine g_nextU ?_
        refine gs_nxI (show SI ns ss (i + 1) _ _ from SI.mk (all ++ [(j, n0, ms)]) (fun z => by omega) (fun _ => hnew) (by simp; omega) (by omega)) fun ad σ H ok => ⟨ad, ?_⟩
        exact ok.weak (by simp [WkE]) (by simp [WkO]) (by simp [EnLt, SvLt]) ⟨by simp [SoLt], by simp [SoLt, SvLt], soLt_data, True.intro⟩ (by simp)
      case d2 =>
        have hb : ¬ (((wrT (all ++ [(j, n0, ms)])).length : Nat) : Int) ≤ 100 := of_decide_eq_false hb
        have hi0 : 0 < i := by
          rcases Nat.eq_zero_or_pos i with z | z
          · exfalso
            have := hwl
            rw [g0 z] at this hb
            rw [hj.1 z] at this hb
            have e : (wrT []).length = 0 := rfl
            have e2 : (jnT []).length = 0 := rfl
            omega
          · exact z
        refine g_nextU ?_
        refine gs_nxI (show SI ns ss (i + 1) _ _ from SI.mk all (fun z => by omega) (fun _ => g1 hi0) (by omega) gw) fun ad σ H ok => ⟨ad, ?_⟩
        exact ok.weak (by simp [WkE]) (by simp [WkO]) (by simp [EnLt, SvLt]) ⟨by simp [SoLt], by simp [SoLt, SvLt], soLt_data, True.intro⟩ (by simp)
-- END _law_steps
abbrev s__law_is_integer : Stmt := topS 18
theorem sc__law_is_integer : FnScope ["value"] ["value"] (defScope s__law_is_integer) := ⟨rfl, rfl, rfl, by decide +kernel, rfl, by decide +kernel, by decide +kernel⟩
def R__law_is_integer : List PyData → PyData → Prop := fun ds d => ∃ i, ds = [.int i] ∧ d = .bool true
theorem R__law_is_integer_i {i : Int} : R__law_is_integer [.int i] (.bool true) := ⟨i, rfl, rfl⟩
local macro_rules | `(tactic| walk_at "r2") => `(tactic| exact R__law_is_integer_i)
theorem R__law_is_integer_len : ∀ ds d, R__law_is_integer ds d → ds.length = 1 := by
  intro ds d hh
  unfold R__law_is_integer at hh
  repeat (obtain ⟨_, hh⟩ := hh)
  subst_eqs
  rfl
theorem ok__law_is_integer {P : Program} {w : World} {K : PySem.W.Frag} {mg : Str → Option Value} {base : Heap} {f : Addr} {fd : FuncData} (F : FnP K "_law_is_integer" s__law_is_integer f fd) (g0 : mg "_law_is_integer" = some (.ref f)) (z_isinstance : mg "isinstance" = none) (z_int : mg "int" = none) (z_bool : mg "bool" = none) : Cal P w K mg base 1 "_law_is_integer" ["value"] (spD K  R__law_is_integer) := by
  refine cal_mk F sc__law_is_integer g0 (spD_len R__law_is_integer_len) (fun _ _ _ _ _ _ us hl => match us, hl with | [_], _ => rfl) (fun cdv A outer s H vs Q E hr h => ⟨_,
    (pss_cons (ps_ret (pe_and (pe_callB (DL.kIsi (K := K)) (by rfl) z_isinstance (by decide +kernel) (pa_cons (pv 0) (pa_cons (pe_bltn (v := .ty "int") (u := .type "int") (by rfl) z_int (by decide +kernel) rfl) pa_nil))) (pe_one (pe_not (pe_callB (DL.kIsi (K := K)) (by rfl) z_isinstance (by decide +kernel) (pa_cons (pv 0) (pa_cons (pe_bltn (v := .ty "bool") (u := .type "bool") (by rfl) z_bool (by decide +kernel) rfl) pa_nil)))))))
     pss_nil), ?_⟩)
  refine run_spD h fun N ds d hR hq => ?_
  obtain ⟨i, rfl, rfl⟩ := hR
  walk_at "env"
  walk_at "ret"
-- END _law_is_integer
abbrev s__law_due : Stmt := topS 19
theorem sc__law_due : FnScope ["steps", "many", "names", "joint", "name", "found"] ["steps"] (defScope s__law_due) := ⟨rfl, rfl, rfl, by decide +kernel, rfl, by decide +kernel, by decide +kernel⟩
theorem mkN_snoc (a : List Stp) (x : Stp) : mkN (a ++ [x]) = mkN a + (x.2.2.length : Int) := by unfold mkN; simp
theorem nmN_snoc (a : List Stp) (x : Stp) : nmN (a ++ [x]) = nmN a + (if nmB x then 1 else 0) := by
  unfold nmN
  rw [List.filter_append, List.length_append]
  cases h : nmB x with
  | true => simp [h]
  | false => simp [h]
def R__law_due : List PyData → PyData → Prop := fun ds d => ∃ all : List Stp, all.length ≤ 1000 ∧ ds = [.list (all.map dStp)] ∧ d = dWt all
theorem R__law_due_i {all : List Stp} (h : all.length ≤ 1000) : R__law_due [.list (all.map dStp)] (dWt all) := ⟨all, h, rfl, rfl⟩
local macro_rules | `(tactic| walk_at "r2") => `(tactic| exact R__law_due_i (by assumption))
theorem R__law_due_len : ∀ ds d, R__law_due ds d → ds.length = 1 := by
  intro ds d hh
  unfold R__law_due at hh
  repeat (obtain ⟨_, hh⟩ := hh)
  subst_eqs
  rfl
theorem ok__law_due {P : Program} {w : World} {K : PySem.W.Frag} {mg : Str → Option Value} {base : Heap} {f : Addr} {fd : FuncData} (F : FnP K "_law_due" s__law_due f fd) (g0 : mg "_law_due" = some (.ref f)) (z_len : mg "len" = none) : Cal P w K mg base 1 "_law_due" ["steps"] (spD K  R__law_due) := by
  refine cal_mk F sc__law_due g0 (spD_len R__law_due_len) (fun _ _ _ _ _ _ us hl => match us, hl with | [_], _ => rfl) (fun cdv A outer s H vs Q E hr h => ⟨_,
    (pss_cons (ps_set (i := 1) sc__law_due.nd rfl (by first | exact Or.inl rfl | exact Or.inr rfl) pe_int)
     (pss_cons (ps_set (i := 2) sc__law_due.nd rfl (by first | exact Or.inl rfl | exact Or.inr rfl) pe_int)
     (pss_cons (ps_for PassesOwn.never rfl (DL.kPiL (K := K) (pv 0)) (DL.kTup (K := K) (n := 3) rfl (pgs_cons (pg_name (i := 3) sc__law_due.nd rfl (by first | exact Or.inl rfl | exact Or.inr rfl)) (pgs_cons (pg_name (i := 4) sc__law_due.nd rfl (by first | exact Or.inl rfl | exact Or.inr rfl)) (pgs_cons (pg_name (i := 5) sc__law_due.nd rfl (by first | exact Or.inl rfl | exact Or.inr rfl)) pgs_nil))))
     (pss_cons (ps_set (i := 1) sc__law_due.nd rfl (by first | exact Or.inl rfl | exact Or.inr rfl) (pe_op op_add (pv 1) (pe_callB (DL.kLen (K := K)) (by rfl) z_len (by decide +kernel) (pa_cons (pv 5) pa_nil))))
     (pss_cons (ps_if (PW.pt (pw_and (pt_cmpR op_ne (pv 4) pe_str (nomark _)) (pw_and1 (pt_cmpR op_ne (pv 4) pe_str (nomark _)))))
     (pss_cons (ps_set (i := 2) sc__law_due.nd rfl (by first | exact Or.inl rfl | exact Or.inr rfl) (pe_op op_add (pv 2) pe_int))
     pss_nil)
     pss_nil)
     pss_nil)))
     (pss_cons (ps_ret (pe_tup (pa_cons (pv 1) (pa_cons (pv 2) pa_nil))))
     pss_nil)))), ?_⟩)
  refine run_spD h fun N ds d hR hq => ?_
  obtain ⟨all, hl, rfl, rfl⟩ := hR
  walk_at "env"
  refine gs_asg (d := .int 0) ex_int ?_
  walk_at "nf"
  refine gs_asg (d := .int 0) ex_int ?_
  walk_at "nf"
  refine' gs_forD (xs := all) (f := dStp) (fun pre => [some (.i (.list (all.map dStp))), some (.i (.int (mkN pre))), some (.i (.int (nmN pre))), none, none, none]) (fun _ => []) (ex_var rfl) (fun c' _ ad σ H ok => ok) (fun fr up pre x post hx => ⟨_, _, tg_tup (ds := [dT x.1, dT x.2.1, .tuple (x.2.2.map dT)]) (tgs_cons tg_name (tgs_cons tg_name (tgs_cons tg_name tgs_nil))) rfl, ?b1⟩) ?b2
  case b1 =>
    walk_at "nf"
    refine gs_asg (d := .int (mkN pre + (x.2.2.length : Int))) (EvX.is (ex_i2 (ex_var rfl) (ex_lenTK (ds := x.2.2.map dT) (ex_var rfl))) (by rw [List.length_map])) ?_
    walk_at "nf"
    have hb : (!decide (x.2.1 = []) && !decide (x.2.1 = [42])) = nmB x := by
      unfold nmB
      by_cases h1 : x.2.1 = [] <;> by_cases h2 : x.2.1 = [42] <;> simp [h1, h2]
    rw [mkN_snoc, nmN_snoc]
    refine gs_if (EvT.is (et_and (et_test (ex_neT (b := []) (ex_var rfl) (ex_txt (by decide +kernel)))) (fun _ => et_test (ex_neT (b := [42]) (ex_var rfl) (ex_txt (by decide +kernel))))) hb) (fun h => ?_) (fun h => ?_)
    · rw [if_pos h]
      refine gs_asg (d := .int (nmN pre + 1)) (ex_i2 (ex_var rfl) ex_int) ?_
      walk_at "nf"
      refine g_nextU ?_
      walk_at "wk"
    · rw [if_neg (by rw [h]; decide), Int.add_zero]
      refine g_nextU ?_
      walk_at "wk"
  case b2 =>
  refine gs_ret (ex_tup (ea_cons (ex_var rfl) (ea_cons (ex_var rfl) ea_nil)) (Nat.le_of_ble_eq_true rfl)) hq
-- END _law_due
abbrev s_law : Stmt := topS 20
theorem sc_law : FnScope ["script", "state", "names", "kinds", "first", "second", "told", "other", "whole"] ["script"] (defScope s_law) := ⟨rfl, rfl, rfl, by decide +kernel, rfl, by decide +kernel, by decide +kernel⟩
theorem mkN_app (a b : List Stp) : mkN (a ++ b) = mkN a + mkN b := by unfold mkN; rw [List.map_append, List.sum_append]
theorem nmN_app (a b : List Stp) : nmN (a ++ b) = nmN a + nmN b := by unfold nmN; rw [List.filter_append, List.length_append]; push_cast; rfl
theorem wt_whole (a r : List Stp) (s : Stp) (j : List Nat) : dWt (a ++ [(j, s.2.1, s.2.2)] ++ r) = .tuple [.int (mkN a + mkN (s :: r)), .int (nmN a + nmN (s :: r))] := by
  have e1 : mkN [(j, s.2.1, s.2.2)] = mkN [s] := rfl
  have e2 : nmN [(j, s.2.1, s.2.2)] = nmN [s] := by
    unfold nmN
    rw [List.filter_cons, List.filter_cons]
    have : nmB (j, s.2.1, s.2.2) = nmB s := rfl
    rw [this]
    cases nmB s <;> rfl
  have e3 : s :: r = [s] ++ r := rfl
  unfold dWt
  rw [mkN_app, mkN_app, nmN_app, nmN_app, e1, e2, e3, mkN_app, nmN_app, Int.add_assoc, Int.add_assoc]
theorem isW_of {l : List Nat} (h : wB l = true) : isW l := by
  unfold wB at h
  simp only [Bool.and_eq_true, decide_eq_true_eq] at h
  exact ⟨h.1.1, h.1.2, fun x hx => by
    have := List.all_eq_true.mp h.2 x hx
    simpa using this⟩
theorem ok_law {P : Program} {w : World} {K : PySem.W.Frag} {mg : Str → Option Value} {base : Heap} {f : Addr} {fd : FuncData} (F : FnP K "law" s_law f fd) (h__law_word : Cal P w K mg base 2 "_law_word" ["state"] (DL.spM K  R__law_word)) (h__law_steps : Cal P w K mg base 3 "_law_steps" ["state", "names", "signs"] (DL.spM K  R__law_steps)) (h_weight : Cal P w K mg base 1 "weight" ["steps"] (spD K  R_weight)) (h__law_due : Cal P w K mg base 1 "_law_due" ["steps"] (spD K  R__law_due)) (h__law_is_integer : Cal P w K mg base 1 "_law_is_integer" ["value"] (spD K  R__law_is_integer)) (h_parse_selector : Cal P w K mg base 3 "parse_selector" ["text"] (spD K  R_parse_selector)) (h__law_written : Cal P w K mg base 1 "_law_written" ["steps"] (spD K  R__law_written)) (z_list : mg "list" = none) (z_tuple : mg "tuple" = none) (z_isinstance : mg "isinstance" = none) (z_len : mg "len" = none) : FnOk P w K mg base CX0 4 f fd ["script"] (spD K RLaw) := by
  refine fnok_mk F sc_law (spD_len RLaw_len) (fun cdv A outer s H vs Q E hr h => ⟨_,
    (pss_cons (ps_set (i := 1) sc_law.nd rfl (by first | exact Or.inl rfl | exact Or.inr rfl) (pe_lst (pa_cons (pe_callTy (DL.kList (K := K)) (by rfl) z_list (by decide +kernel) (pa_cons (pv 0) pa_nil)) (pa_cons pe_int (pa_cons pe_int pa_nil)))))
     (pss_cons (ps_set (i := 2) sc_law.nd rfl (by first | exact Or.inl rfl | exact Or.inr rfl) (pe_lst (pa_cons (DL.pe_cal h__law_word hr (by decide) (by rfl) pass0 (pa_cons (pv 1) pa_nil)) (pa_cons pe_str (pa_cons pe_str pa_nil)))))
     (pss_cons (ps_set (i := 3) sc_law.nd rfl (by first | exact Or.inl rfl | exact Or.inr rfl) (pe_lst (pa_cons (DL.pe_cal h__law_word hr (by decide) (by rfl) pass0 (pa_cons (pv 1) pa_nil)) (pa_cons pe_str (pa_cons pe_str pa_nil)))))
     (pss_cons (ps_set (i := 4) sc_law.nd rfl (by first | exact Or.inl rfl | exact Or.inr rfl) (DL.pe_cal h__law_steps hr (by decide) (by rfl) pass0 (pa_cons (pv 1) (pa_cons (pv 2) (pa_cons (pv 3) pa_nil)))))
     (pss_cons (ps_set (i := 5) sc_law.nd rfl (by first | exact Or.inl rfl | exact Or.inr rfl) (DL.pe_cal h__law_steps hr (by decide) (by rfl) pass0 (pa_cons (pv 1) (pa_cons (pv 2) (pa_cons (pv 3) pa_nil)))))
     (pss_cons (ps_set (i := 6) sc_law.nd rfl (by first | exact Or.inl rfl | exact Or.inr rfl) (DL.pe_cal h_weight hr (by decide) (by rfl) pass0 (pa_cons (pe_callTy (DL.kTupleOf (K := K)) (by rfl) z_tuple (by decide +kernel) (pa_cons (pv 4) pa_nil)) pa_nil)))
     (pss_cons (ps_if (PW.pt (pw_or (pt_not (pt_val (pe_callB (DL.kIsi (K := K)) (by rfl) z_isinstance (by decide +kernel) (pa_cons (pv 6) (pa_cons (pe_bltn (v := .ty "tuple") (u := .type "tuple") (by rfl) z_tuple (by decide +kernel) rfl) pa_nil))))) (pw_or (pt_cmpR op_ne (pe_callB (DL.kLen (K := K)) (by rfl) z_len (by decide +kernel) (pa_cons (pv 6) pa_nil)) pe_int (nomark _)) (pw_or1 (pt_cmpR (DL.kNeD (K := K) hr.units) (pv 6) (DL.pe_cal h__law_due hr (by decide) (by rfl) pass0 (pa_cons (pv 4) pa_nil)) (nomark _))))))
     (pss_cons (ps_ret pe_bl)
     pss_nil)
     pss_nil)
     (pss_cons (ps_if (PW.pt (pw_or (pt_not (pt_val (DL.pe_cal h__law_is_integer hr (by decide) (by rfl) pass0 (pa_cons (pe_ix (DL.kIxT (K := K)) (pv 6) pe_int (fun _ _ => rfl)) pa_nil)))) (pw_or1 (pt_not (pt_val (DL.pe_cal h__law_is_integer hr (by decide) (by rfl) pass0 (pa_cons (pe_ix (DL.kIxT (K := K)) (pv 6) pe_int (fun _ _ => rfl)) pa_nil)))))))
     (pss_cons (ps_ret pe_bl)
     pss_nil)
     pss_nil)
     (pss_cons (ps_if (pt_cmpR (DL.kNeD (K := K) hr.units) (DL.pe_cal h_weight hr (by decide) (by rfl) pass0 (pa_cons (DL.pe_cal h_parse_selector hr (by decide) (by rfl) pass0 (pa_cons (DL.pe_cal h__law_written hr (by decide) (by rfl) pass0 (pa_cons (pv 4) pa_nil)) pa_nil)) pa_nil)) (pv 6) (nomark _))
     (pss_cons (ps_ret pe_bl)
     pss_nil)
     pss_nil)
     (pss_cons (ps_set (i := 7) sc_law.nd rfl (by first | exact Or.inl rfl | exact Or.inr rfl) (DL.pe_cal h_weight hr (by decide) (by rfl) pass0 (pa_cons (pe_callTy (DL.kTupleOf (K := K)) (by rfl) z_tuple (by decide +kernel) (pa_cons (pv 5) pa_nil)) pa_nil)))
     (pss_cons (ps_set (i := 8) sc_law.nd rfl (by first | exact Or.inl rfl | exact Or.inr rfl) (pe_op op_cat (pe_op (DL.kCatL (K := K)) (pv 4) (pe_lst (pa_cons (pe_tup (pa_cons pe_str (pa_cons (pe_ix (DL.kIxT (K := K)) (pe_ix (DL.kIxL (K := K)) (pv 5) pe_int (fun _ _ => rfl)) pe_int (fun _ _ => rfl)) (pa_cons (pe_ix (DL.kIxT (K := K)) (pe_ix (DL.kIxL (K := K)) (pv 5) pe_int (fun _ _ => rfl)) pe_int (fun _ _ => rfl)) pa_nil)))) pa_nil))) (pe_slice (DL.kSlL (K := K)) (pv 5) (po_some pe_int) po_none)))
     (pss_cons (ps_if (PW.pt (pw_or (pt_cmpR op_gt (pe_callB (DL.kLen (K := K)) (by rfl) z_len (by decide +kernel) (pa_cons (pv 8) pa_nil)) pe_int (nomark _)) (pw_or1 (pt_cmpR op_gt (pe_callB call_len_str (by rfl) z_len (by decide +kernel) (pa_cons (DL.pe_cal h__law_written hr (by decide) (by rfl) pass0 (pa_cons (pv 8) pa_nil)) pa_nil)) pe_int (nomark _)))))
     (pss_cons (ps_ret (pe_cmpR (DL.kEqD (K := K) hr.units) (pv 7) (DL.pe_cal h__law_due hr (by decide) (by rfl) pass0 (pa_cons (pv 5) pa_nil)) (nomark _)))
     pss_nil)
     pss_nil)
     (pss_cons (ps_ret (pe_cmpR (DL.kEqD (K := K) hr.units) (DL.pe_cal h_weight hr (by decide) (by rfl) pass0 (pa_cons (pe_callTy (DL.kTupleOf (K := K)) (by rfl) z_tuple (by decide +kernel) (pa_cons (pv 8) pa_nil)) pa_nil)) (pe_tup (pa_cons (pe_op op_add (pe_ix (DL.kIxT (K := K)) (pv 6) pe_int (fun _ _ => rfl)) (pe_ix (DL.kIxT (K := K)) (pv 7) pe_int (fun _ _ => rfl))) (pa_cons (pe_op op_add (pe_ix (DL.kIxT (K := K)) (pv 6) pe_int (fun _ _ => rfl)) (pe_ix (DL.kIxT (K := K)) (pv 7) pe_int (fun _ _ => rfl))) pa_nil))) (nomark _)))
     pss_nil))))))))))))), ?_⟩)
  refine run_spD h fun N ds d hR hq => ?_
  obtain ⟨ns, hl, rfl, rfl⟩ := hR
  walk_at "env"
  refine gs_asgSt (ns := ns) (ef_listK (EvX.it (ex_var rfl))) ex_int ex_int ?_
  walk_at "nf"
  refine gs_asgM (P := fun d => ∃ xs : List (List Nat), d = .list (xs.map dT) ∧ xs ≠ [] ∧ (∀ x ∈ xs, isW x) ∧ xs.length ≤ 1000) (EvM.imp (em_lst (PP := fun ds => ∃ w, isW w ∧ ds = [dT w, dT [97], dT [112, 97, 103, 101]]) (eam_cons (em_call (R := R__law_word) (ks := 1) (ki := 0) rfl rfl rfl ea_nil R__law_word_i) (fun v d hd => eam_a (ds := [dT [97], dT [112, 97, 103, 101]]) (ea_cons (ex_txt (by decide +kernel)) (ea_cons (ex_txt (by decide +kernel)) ea_nil)) ?a1)) ?a2) (fun d hd => ?a3)) (fun d hd => ?a4)
  case a1 => obtain ⟨w, hw, _, rfl⟩ := hd; exact ⟨w, hw, rfl⟩
  case a2 => intro ds hds; obtain ⟨w, hw, rfl⟩ := hds; exact Nat.le_of_ble_eq_true rfl
  case a3 =>
    obtain ⟨ds, rfl, w, hw, rfl⟩ := hd
    refine ⟨[w, [97], [112, 97, 103, 101]], rfl, by simp, fun x hx => ?_, by simp⟩
    rcases List.mem_cons.mp hx with z | hx
    · rw [z]; exact hw
    rcases List.mem_cons.mp hx with z | hx
    · rw [z]; exact isW_of (by decide)
    · rw [List.mem_singleton.mp hx]; exact isW_of (by decide)
  case a4 =>
  obtain ⟨xs, rfl, x1, x2, x3⟩ := hd
  walk_at "nf"
  refine gs_asgM (P := fun d => ∃ xs : List (List Nat), d = .list (xs.map dT) ∧ xs ≠ [] ∧ (∀ x ∈ xs, isW x) ∧ xs.length ≤ 1000) (EvM.imp (em_lst (PP := fun ds => ∃ w, isW w ∧ ds = [dT w, dT [120], dT [121, 121]]) (eam_cons (em_call (R := R__law_word) (ks := 1) (ki := 0) rfl rfl rfl ea_nil R__law_word_i) (fun v d hd => eam_a (ds := [dT [120], dT [121, 121]]) (ea_cons (ex_txt (by decide +kernel)) (ea_cons (ex_txt (by decide +kernel)) ea_nil)) ?b1)) ?b2) (fun d hd => ?b3)) (fun d hd => ?b4)
  case b1 => obtain ⟨w, hw, _, rfl⟩ := hd; exact ⟨w, hw, rfl⟩
  case b2 => intro ds hds; obtain ⟨w, hw, rfl⟩ := hds; exact Nat.le_of_ble_eq_true rfl
  case b3 =>
    obtain ⟨ds, rfl, w, hw, rfl⟩ := hd
    refine ⟨[w, [120], [121, 121]], rfl, by simp, fun x hx => ?_, by simp⟩
    rcases List.mem_cons.mp hx with z | hx
    · rw [z]; exact hw
    rcases List.mem_cons.mp hx with z | hx
    · rw [z]; exact isW_of (by decide)
    · rw [List.mem_singleton.mp hx]; exact isW_of (by decide)
  case b4 =>
  obtain ⟨ys, rfl, y1, y2, y3⟩ := hd
  walk_at "nf"
  refine gs_asgM (P := fun d => ∃ all, d = .list (all.map dStp) ∧ stepsOk all ∧ (wrT all).length ≤ 100 ∧ all.length ≤ 4) (EvM.imp (em_call (R := R__law_steps) (ks := 1) (ki := 0) rfl rfl rfl (ea_cons (ex_var rfl) (ea_cons (ex_var rfl) ea_nil)) (R__law_steps_i x1 y1 x2 y2 x3 y3)) (fun d hd => by obtain ⟨_, _, all, _, _, _, _, _, _, p1, p2, p3, _, e⟩ := hd; exact ⟨all, e, p1, p2, p3⟩)) (fun d hd => ?_)
  obtain ⟨a1, rfl, p1, p2, p3⟩ := hd
  walk_at "nf"
  refine gs_asgM (P := fun d => ∃ all, d = .list (all.map dStp) ∧ stepsOk all ∧ (wrT all).length ≤ 100 ∧ all.length ≤ 4) (EvM.imp (em_call (R := R__law_steps) (ks := 1) (ki := 0) rfl rfl rfl (ea_cons (ex_var rfl) (ea_cons (ex_var rfl) ea_nil)) (R__law_steps_i x1 y1 x2 y2 x3 y3)) (fun d hd => by obtain ⟨_, _, all, _, _, _, _, _, _, p1, p2, p3, _, e⟩ := hd; exact ⟨all, e, p1, p2, p3⟩)) (fun d hd => ?_)
  obtain ⟨a2, rfl, q1, q2, q3⟩ := hd
  walk_at "nf"
  cases a1 with
  | nil => exact p1.elim
  | cons s1 r1 =>
  cases a2 with
  | nil => exact q1.elim
  | cons s2 r2 =>
  refine gs_asg (d := .tuple [.int (mkN (s1 :: r1)), .int (nmN (s1 :: r1))]) (show EvX false _ _ _ _ (dWt (s1 :: r1)) from ex_call (ea_cons (ex_tupleOf rfl (EvX.it (ex_var rfl))) ea_nil) (R_weight_i (by omega))) ?_
  walk_at "nf"
  have sh : ∀ all, SeqAt.shaped (dWt all) = true := fun all => rfl
  refine gs_if (b := false) (EvT.is (et_or (et_not (et_B (ex_isi (ex_var rfl) kit_tuple_tuple))) (fun _ => et_or (et_test (ex_neI (ex_lenTK (ds := [.int (mkN (s1 :: r1)), .int (nmN (s1 :: r1))]) (ex_var rfl)) ex_int)) (fun _ => et_test (ex_neD (ex_var rfl) (ex_call (ea_cons (ex_var rfl) ea_nil) (R__law_due_i (all := s1 :: r1) (by omega))) (sh (s1 :: r1)) (sh (s1 :: r1)))))) ?c1) (fun z => nomatch z) fun _ => g_nextU ?_
  case c1 =>
    have := eqv_self (sh (s1 :: r1))
    unfold dWt at this ⊢
    rw [this]
    rfl
  refine gs_if (b := false) (EvT.is (et_or (et_not (et_B (ex_call (ea_cons (ex_ixT (ds := [.int (mkN (s1 :: r1)), .int (nmN (s1 :: r1))]) (ex_var rfl) ex_int (atI_nat (j := 0) rfl)) ea_nil) R__law_is_integer_i))) (fun _ => et_not (et_B (ex_call (ea_cons (ex_ixT (ds := [.int (mkN (s1 :: r1)), .int (nmN (s1 :: r1))]) (ex_var rfl) ex_int (atI_nat (j := 1) rfl)) ea_nil) R__law_is_integer_i)))) rfl) (fun z => nomatch z) fun _ => g_nextU ?_
  refine gs_if (b := false) (EvT.is (et_test (ex_neD (ex_call (ea_cons (ex_call (ea_cons (ex_call (ea_cons (ex_var rfl) ea_nil) (R__law_written_i (all := s1 :: r1) (stepsOk_jn p1) (by omega))) ea_nil) (R_parse_selector_i p1 p2 p3)) ea_nil) (R_weight_i (all := s1 :: r1) (by omega))) (ex_var rfl) (sh (s1 :: r1)) (sh (s1 :: r1)))) ?c2) (fun z => nomatch z) fun _ => g_nextU ?_
  case c2 =>
    have := eqv_self (sh (s1 :: r1))
    unfold dWt at this ⊢
    rw [this]
    rfl
  refine gs_asg (d := .tuple [.int (mkN (s2 :: r2)), .int (nmN (s2 :: r2))]) (show EvX false _ _ _ _ (dWt (s2 :: r2)) from ex_call (ea_cons (ex_tupleOf rfl (EvX.it (ex_var rfl))) ea_nil) (R_weight_i (by omega))) ?_
  walk_at "nf"
  have at0 : atI ((s2 :: r2).map dStp) 0 = some (dStp s2) := atI_nat (j := 0) rfl
  refine gs_asgF (o := .lst (((s1 :: r1 ++ [([32], s2.2.1, s2.2.2)] ++ r2).map dStp).map SV.i)) (EvF.is (ef_cat (ef_catL (ds := (s1 :: r1).map dStp) (es := [dStp ([32], s2.2.1, s2.2.2)]) (ex_var rfl) (EvF.ev (ef_lst (EvA.ss (ds := [dStp ([32], s2.2.1, s2.2.2)]) (ea_cons (ex_tup (ea_cons (ex_txt (l := [32]) (by decide +kernel)) (ea_cons (ex_ixT (ds := [dT s2.1, dT s2.2.1, .tuple (s2.2.2.map dT)]) (ex_ixLD (ds := (s2 :: r2).map dStp) (ex_var rfl) ex_int at0) ex_int (atI_nat (j := 1) rfl)) (ea_cons (ex_ixT (ds := [dT s2.1, dT s2.2.1, .tuple (s2.2.2.map dT)]) (ex_ixLD (ds := (s2 :: r2).map dStp) (ex_var rfl) ex_int at0) ex_int (atI_nat (j := 2) rfl)) ea_nil))) (Nat.le_of_ble_eq_true rfl)) ea_nil)) (Nat.le_of_ble_eq_true rfl))) ?d1) (ef_slice (EvX.it (ex_var rfl)) (eo_some (i := ((1 : Nat) : Int)) ex_int) eo_none) ?d2) ?d3) ?_
  case d1 =>
    have : r1.length ≤ 3 := by simpa using p3
    simp only [List.length_map, List.length_cons, List.length_nil]
    omega
  case d2 =>
    have h1 : r1.length ≤ 3 := by simpa using p3
    have h2 : r2.length ≤ 3 := by simpa using q3
    rw [cutG_from]
    simp
    omega
  case d3 => rw [cutG_from]; simp
  walk_at "nf"
  refine gs_own (i := 8) (k := 2) (ds := (s1 :: r1 ++ [([32], s2.2.1, s2.2.2)] ++ r2).map dStp) rfl rfl ?_
  walk_at "nf"
  have hwl : (wrT (s1 :: r1 ++ [([32], s2.2.1, s2.2.2)] ++ r2)).length ≤ 100000 := by
    have e1 : wrT [([32], s2.2.1, s2.2.2)] = [32] ++ stT s2 := by show jnT [32] ++ stT s2 ++ [] = _; rw [List.append_nil]; rfl
    have e2 : wrT (s2 :: r2) = jnT s2.1 ++ stT s2 ++ wrT r2 := rfl
    rw [wrT_app, wrT_app, e1]
    rw [e2] at q2
    simp only [List.length_append, List.length_cons, List.length_nil] at q2 p2 ⊢
    have p2' : (wrT (s1 :: r1)).length ≤ 100 := p2
    omega
  have hjw : ∀ s ∈ s1 :: r1 ++ [([32], s2.2.1, s2.2.2)] ++ r2, jnOk s := fun s hs => by
    rcases List.mem_append.mp hs with z | z
    · rcases List.mem_append.mp z with z | z
      · exact stepsOk_jn p1 s z
      · rw [List.mem_singleton.mp z]; exact Or.inr (Or.inl rfl)
    · exact Or.inr (q1.2.2 s z).1
  have hln : (s1 :: r1 ++ [([32], s2.2.1, s2.2.2)] ++ r2).length ≤ 1000 := by
    have h1 : r1.length ≤ 3 := by simpa using p3
    have h2 : r2.length ≤ 3 := by simpa using q3
    simp only [List.length_append, List.length_cons, List.length_nil]
    omega
  refine gs_if (et_or (et_test (ex_b2 (ex_lenK (EvX.it (ex_var rfl))) ex_int)) (fun _ => et_test (ex_b2 (ex_lenS rfl (ex_call (ea_cons (ex_var rfl) ea_nil) (R__law_written_i hjw hwl)) (by omega)) ex_int))) (fun _ => ?_) (fun _ => g_nextU ?_)
  · refine gs_ret (EvX.is (ex_eqD (ex_var rfl) (ex_call (ea_cons (ex_var rfl) ea_nil) (R__law_due_i (all := s2 :: r2) (by omega))) (sh (s2 :: r2)) (sh (s2 :: r2))) ?_) hq
    exact congrArg PyData.bool (eqv_self (sh (s2 :: r2)))
  · refine gs_ret (EvX.is (ex_eqD (ex_call (ea_cons (ex_tupleOf rfl (EvX.it (ex_var rfl))) ea_nil) (R_weight_i hln)) (ex_tup (ea_cons (ex_i2 (ex_ixT (ds := [.int (mkN (s1 :: r1)), .int (nmN (s1 :: r1))]) (ex_var rfl) ex_int (atI_nat (j := 0) rfl)) (ex_ixT (ds := [.int (mkN (s2 :: r2)), .int (nmN (s2 :: r2))]) (ex_var rfl) ex_int (atI_nat (j := 0) rfl))) (ea_cons (ex_i2 (ex_ixT (ds := [.int (mkN (s1 :: r1)), .int (nmN (s1 :: r1))]) (ex_var rfl) ex_int (atI_nat (j := 1) rfl)) (ex_ixT (ds := [.int (mkN (s2 :: r2)), .int (nmN (s2 :: r2))]) (ex_var rfl) ex_int (atI_nat (j := 1) rfl))) ea_nil)) (Nat.le_of_ble_eq_true rfl)) (sh _) rfl) ?_) hq
    rw [wt_whole]
    exact congrArg PyData.bool (eqv_self (d := .tuple [.int (mkN (s1 :: r1) + mkN (s2 :: r2)), .int (nmN (s1 :: r1) + nmN (s2 :: r2))]) rfl)
-- END law
def fn : List He.DefD := [dD "is_word" s_is_word, dD "parse_selector" s_parse_selector, dD "weight" s_weight, dD "_parse_step" s__parse_step, dD "_law_next" s__law_next, dD "_law_word" s__law_word, dD "_law_step" s__law_step, dD "_law_steps" s__law_steps, dD "_law_written" s__law_written, dD "_law_is_integer" s__law_is_integer, dD "_law_due" s__law_due, dD "law" s_law]
def ts : List He.Tab := []
def fa : List He.Fa := [.glo "is_word", .glo "parse_selector", .glo "weight", .glo "_parse_step", .glo "_law_next", .glo "_law_word", .glo "_law_step", .glo "_law_steps", .glo "_law_written", .glo "_law_is_integer", .glo "_law_due", .glo "law", .free "all", .free "bool", .free "int", .free "isinstance", .free "len", .free "list", .free "range", .free "set", .free "str", .free "sum", .free "tuple", .int "LONGEST_WORD" 12, .int "MOST_CHARACTERS" 100, .int "MOST_STEPS" 4]
def ex (K : PySem.W.Frag) : Bool := true
abbrev R : PySem.W.OpenRow := PySem.W.OpenLaw.row PySem.Challenge.rw_quirekiln_k33_weight_of_a_selector
abbrev hk : PySem.W.Hook := He.hookX 4 fa fn ts [] ex
def ob (s : PySem.W.SharedT) : He.AlX := He.obsX 4 fa fn ts [] ex (HandSHeadRun.getT s)
theorem ob_eq (s : PySem.W.SharedT) : ob s = hk.obs s.abs := He.obsX_eq (HandSHeadRun.getT_eq s)
def wb (b : Bool) (w : World) : World := { w with params := { w.params with followText := fun r => if r = "special-get-raises" then b else w.params.followText r } }
theorem wb_eq (w : World) : wb (w.params.followText "special-get-raises") w = w := by
  unfold wb
  have e : (fun r => if r = "special-get-raises" then w.params.followText "special-get-raises" else w.params.followText r) = w.params.followText := by
    funext r
    split
    · rename_i h
      rw [h]
    · rfl
  rw [e]
set_option maxHeartbeats 0 in
theorem run_true (w : World) : HandSHeadRun.RunEq R (PySem.W.view R.prog [20]) hk ob 1920 ["PageError", "BadSelector", "LONGEST_WORD", "is_word", "MOST_CHARACTERS", "MOST_STEPS", "parse_selector", "weight", "_parse_step", "_law_next", "_law_word", "_law_step", "_law_steps", "_law_written", "_law_is_integer", "_law_due"] (wb true w) := by
  intro os
  kernel_rfl
set_option maxHeartbeats 0 in
theorem run_false (w : World) : HandSHeadRun.RunEq R (PySem.W.view R.prog [20]) hk ob 1920 ["PageError", "BadSelector", "LONGEST_WORD", "is_word", "MOST_CHARACTERS", "MOST_STEPS", "parse_selector", "weight", "_parse_step", "_law_next", "_law_word", "_law_step", "_law_steps", "_law_written", "_law_is_integer", "_law_due"] (wb false w) := by
  intro os
  kernel_rfl
theorem run (w : World) : HandSHeadRun.RunEq R (PySem.W.view R.prog [20]) hk ob 1920 ["PageError", "BadSelector", "LONGEST_WORD", "is_word", "MOST_CHARACTERS", "MOST_STEPS", "parse_selector", "weight", "_parse_step", "_law_next", "_law_word", "_law_step", "_law_steps", "_law_written", "_law_is_integer", "_law_due"] w := by
  have e := wb_eq w
  cases h : w.params.followText "special-get-raises" with
  | true => rw [h] at e; rw [← e]; exact run_true w
  | false => rw [h] at e; rw [← e]; exact run_false w
theorem facts {P : Program} (w : World) (mg : Str → Option Value) (K : PySem.W.Frag) (h : Heap) (KX : K.In h) (G : h.Ns mainGlobals mg) (c : He.SaysX fa fn ts [] ex w h K) : mg "law" = some (.ref (He.ga K "law")) ∧ ∃ fd, FnP K "law" s_law (He.ga K "law") fd ∧
    ∀ base : Heap, K.In base → base.Ns mainGlobals mg → FnOk P w K mg base CX0 4 (He.ga K "law") fd ["script"] (spD K RLaw) := by
  have cd := c.t.d
  have q_is_word : mg "is_word" = some (.ref (He.ga K "is_word")) := He.glo_ok KX G (cd.fact 0 (f := .glo "is_word") rfl)
  obtain ⟨d_is_word, e_is_word⟩ := cd.def_ 0 (d := dD "is_word" s_is_word) rfl
  have F_is_word : FnP K "is_word" s_is_word (He.ga K "is_word") d_is_word := e_is_word
  have q_parse_selector : mg "parse_selector" = some (.ref (He.ga K "parse_selector")) := He.glo_ok KX G (cd.fact 1 (f := .glo "parse_selector") rfl)
  obtain ⟨d_parse_selector, e_parse_selector⟩ := cd.def_ 1 (d := dD "parse_selector" s_parse_selector) rfl
  have F_parse_selector : FnP K "parse_selector" s_parse_selector (He.ga K "parse_selector") d_parse_selector := e_parse_selector
  have q_weight : mg "weight" = some (.ref (He.ga K "weight")) := He.glo_ok KX G (cd.fact 2 (f := .glo "weight") rfl)
  obtain ⟨d_weight, e_weight⟩ := cd.def_ 2 (d := dD "weight" s_weight) rfl
  have F_weight : FnP K "weight" s_weight (He.ga K "weight") d_weight := e_weight
  have q__parse_step : mg "_parse_step" = some (.ref (He.ga K "_parse_step")) := He.glo_ok KX G (cd.fact 3 (f := .glo "_parse_step") rfl)
  obtain ⟨d__parse_step, e__parse_step⟩ := cd.def_ 3 (d := dD "_parse_step" s__parse_step) rfl
  have F__parse_step : FnP K "_parse_step" s__parse_step (He.ga K "_parse_step") d__parse_step := e__parse_step
  have q__law_next : mg "_law_next" = some (.ref (He.ga K "_law_next")) := He.glo_ok KX G (cd.fact 4 (f := .glo "_law_next") rfl)
  obtain ⟨d__law_next, e__law_next⟩ := cd.def_ 4 (d := dD "_law_next" s__law_next) rfl
  have F__law_next : FnP K "_law_next" s__law_next (He.ga K "_law_next") d__law_next := e__law_next
  have q__law_word : mg "_law_word" = some (.ref (He.ga K "_law_word")) := He.glo_ok KX G (cd.fact 5 (f := .glo "_law_word") rfl)
  obtain ⟨d__law_word, e__law_word⟩ := cd.def_ 5 (d := dD "_law_word" s__law_word) rfl
  have F__law_word : FnP K "_law_word" s__law_word (He.ga K "_law_word") d__law_word := e__law_word
  have q__law_step : mg "_law_step" = some (.ref (He.ga K "_law_step")) := He.glo_ok KX G (cd.fact 6 (f := .glo "_law_step") rfl)
  obtain ⟨d__law_step, e__law_step⟩ := cd.def_ 6 (d := dD "_law_step" s__law_step) rfl
  have F__law_step : FnP K "_law_step" s__law_step (He.ga K "_law_step") d__law_step := e__law_step
  have q__law_steps : mg "_law_steps" = some (.ref (He.ga K "_law_steps")) := He.glo_ok KX G (cd.fact 7 (f := .glo "_law_steps") rfl)
  obtain ⟨d__law_steps, e__law_steps⟩ := cd.def_ 7 (d := dD "_law_steps" s__law_steps) rfl
  have F__law_steps : FnP K "_law_steps" s__law_steps (He.ga K "_law_steps") d__law_steps := e__law_steps
  have q__law_written : mg "_law_written" = some (.ref (He.ga K "_law_written")) := He.glo_ok KX G (cd.fact 8 (f := .glo "_law_written") rfl)
  obtain ⟨d__law_written, e__law_written⟩ := cd.def_ 8 (d := dD "_law_written" s__law_written) rfl
  have F__law_written : FnP K "_law_written" s__law_written (He.ga K "_law_written") d__law_written := e__law_written
  have q__law_is_integer : mg "_law_is_integer" = some (.ref (He.ga K "_law_is_integer")) := He.glo_ok KX G (cd.fact 9 (f := .glo "_law_is_integer") rfl)
  obtain ⟨d__law_is_integer, e__law_is_integer⟩ := cd.def_ 9 (d := dD "_law_is_integer" s__law_is_integer) rfl
  have F__law_is_integer : FnP K "_law_is_integer" s__law_is_integer (He.ga K "_law_is_integer") d__law_is_integer := e__law_is_integer
  have q__law_due : mg "_law_due" = some (.ref (He.ga K "_law_due")) := He.glo_ok KX G (cd.fact 10 (f := .glo "_law_due") rfl)
  obtain ⟨d__law_due, e__law_due⟩ := cd.def_ 10 (d := dD "_law_due" s__law_due) rfl
  have F__law_due : FnP K "_law_due" s__law_due (He.ga K "_law_due") d__law_due := e__law_due
  have q_law : mg "law" = some (.ref (He.ga K "law")) := He.glo_ok KX G (cd.fact 11 (f := .glo "law") rfl)
  obtain ⟨d_law, e_law⟩ := cd.def_ 11 (d := dD "law" s_law) rfl
  have F_law : FnP K "law" s_law (He.ga K "law") d_law := e_law
  have z_all : mg "all" = none := He.free_ok KX G (cd.fact 12 (f := .free "all") rfl)
  have z_bool : mg "bool" = none := He.free_ok KX G (cd.fact 13 (f := .free "bool") rfl)
  have z_int : mg "int" = none := He.free_ok KX G (cd.fact 14 (f := .free "int") rfl)
  have z_isinstance : mg "isinstance" = none := He.free_ok KX G (cd.fact 15 (f := .free "isinstance") rfl)
  have z_len : mg "len" = none := He.free_ok KX G (cd.fact 16 (f := .free "len") rfl)
  have z_list : mg "list" = none := He.free_ok KX G (cd.fact 17 (f := .free "list") rfl)
  have z_range : mg "range" = none := He.free_ok KX G (cd.fact 18 (f := .free "range") rfl)
  have z_set : mg "set" = none := He.free_ok KX G (cd.fact 19 (f := .free "set") rfl)
  have z_str : mg "str" = none := He.free_ok KX G (cd.fact 20 (f := .free "str") rfl)
  have z_sum : mg "sum" = none := He.free_ok KX G (cd.fact 21 (f := .free "sum") rfl)
  have z_tuple : mg "tuple" = none := He.free_ok KX G (cd.fact 22 (f := .free "tuple") rfl)
  have c_LONGEST_WORD : ∃ t, mg "LONGEST_WORD" = some (.int 12 t) := He.int_ok KX G (cd.fact 23 (f := .int "LONGEST_WORD" 12) rfl)
  have c_MOST_CHARACTERS : ∃ t, mg "MOST_CHARACTERS" = some (.int 100 t) := He.int_ok KX G (cd.fact 24 (f := .int "MOST_CHARACTERS" 100) rfl)
  have c_MOST_STEPS : ∃ t, mg "MOST_STEPS" = some (.int 4 t) := He.int_ok KX G (cd.fact 25 (f := .int "MOST_STEPS" 4) rfl)
  refine ⟨q_law, d_law, F_law, fun base hb hg => ?_⟩
  have h_is_word := ok_is_word (P := P) (w := w) (mg := mg) (base := base) F_is_word q_is_word z_isinstance z_str z_len z_all c_LONGEST_WORD
  have h__parse_step := ok__parse_step (P := P) (w := w) (mg := mg) (base := base) F__parse_step q__parse_step h_is_word z_all z_len z_set z_tuple
  have h_parse_selector := ok_parse_selector (P := P) (w := w) (mg := mg) (base := base) F_parse_selector q_parse_selector h__parse_step z_isinstance z_str z_len z_tuple c_MOST_CHARACTERS c_MOST_STEPS
  have h_weight := ok_weight (P := P) (w := w) (mg := mg) (base := base) F_weight q_weight z_sum z_len
  have h__law_next := ok__law_next (P := P) (w := w) (mg := mg) (base := base) F__law_next q__law_next z_len z_int
  have h__law_word := ok__law_word (P := P) (w := w) (mg := mg) (base := base) F__law_word q__law_word h__law_next z_range
  have h__law_step := ok__law_step (P := P) (w := w) (mg := mg) (base := base) F__law_step q__law_step h__law_next z_len z_tuple
  have h__law_written := ok__law_written (P := P) (w := w) (mg := mg) (base := base) F__law_written q__law_written
  have h__law_steps := ok__law_steps (P := P) (w := w) (mg := mg) (base := base) F__law_steps q__law_steps h__law_step h__law_next h__law_written z_range z_len
  have h__law_is_integer := ok__law_is_integer (P := P) (w := w) (mg := mg) (base := base) F__law_is_integer q__law_is_integer z_isinstance z_int z_bool
  have h__law_due := ok__law_due (P := P) (w := w) (mg := mg) (base := base) F__law_due q__law_due z_len
  have h_law := ok_law (P := P) (w := w) (mg := mg) (base := base) F_law h__law_word h__law_steps h_weight h__law_due h__law_is_integer h_parse_selector h__law_written z_list z_tuple z_isinstance z_len
  exact h_law
end Q
open PySem PySem.W PySem.Calls PyProof.Rows
set_option maxHeartbeats 0 in
theorem PySem.Challenge.cw_quirekiln_k33_weight_of_a_selector_holds : PySem.Challenge.rw_quirekiln_k33_weight_of_a_selector.Holds := by
  w_on; o_law
  refine HandSHeadRun.head_any (r := OpenLaw.row PySem.Challenge.rw_quirekiln_k33_weight_of_a_selector) (q := view (OpenLaw.row PySem.Challenge.rw_quirekiln_k33_weight_of_a_selector).prog [20]) (H := Q.hk) (ob := Q.ob) (M := 1920) (loose := ["PageError", "BadSelector", "LONGEST_WORD", "is_word", "MOST_CHARACTERS", "MOST_STEPS", "parse_selector", "weight", "_parse_step", "_law_next", "_law_word", "_law_step", "_law_steps", "_law_written", "_law_is_integer", "_law_due"]) (d := HandSHeadRun.topDef (OpenLaw.row PySem.Challenge.rw_quirekiln_k33_weight_of_a_selector).prog 20) (kwd := []) Q.ob_eq
    (by kernel_rfl) (fun s => by kernel_rfl) Q.run (by kernel_rfl) (by kernel_rfl) (by kernel_rfl) (by rfl) (by first | assumption | decide +kernel) (by decide +kernel) ⟨rfl, rfl, rfl, rfl, rfl, by decide +kernel⟩ ?hw ?hc
  case hw => w_witness2
  case hc =>
    exact DL.walk_end (l := PySem.Challenge.rw_quirekiln_k33_weight_of_a_selector) (k := 4) (st := Q.s_law) rfl (by kernel_rfl) ⟨rfl, by decide, by decide⟩ (by kernel_rfl) (fun _ _ _ _ _ _ us hl => match us, hl with | [_], _ => rfl) (fun w mg K h KX G c => Q.facts w mg K h KX G c)
