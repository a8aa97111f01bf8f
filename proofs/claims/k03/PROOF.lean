import PyProof.Rows.All
import Wide.All
import OpenK.AllK
import Wide.FinOn
import HandS.ForMost
import HandS.Walk
import HandS.Evl
import HandS.Flow
import HandS.IsInst
import HandS.SortInts
import HandS.ForExc
import HandS.Defaults
import HandS.Head0
import HandS.Head1
import HandS.Head2
import HandS.HeadEnd
import HandS.HeadHook1
import HandS.HeadHook2
import HandS.HeadHook3
import HandS.HeadHook4
import HandS.More
import HandS.Style
import PySem.Challenge.RW_quirekiln_k03_bounding_rectangle
set_option Elab.async false
set_option linter.all false
set_option maxRecDepth 100000
set_option maxHeartbeats 2000000
/-! The data layer: what a piece of a def does, told by data (PyData) and by a small symbolic store, over the readings of HandS. -/
namespace DL
open PySem L2

/-! ### data at an address -/
def SqK (K : PySem.W.Frag) (a : Addr) (xs : List V) : Prop :=
  ∃ (o : Obj) (its : Array Value) (n : Nat), K.lookup a = some o ∧ o.cls = .type "list" ∧ o.dict = none ∧ o.data = .seq its n ∧ its.size ≤ sizeLine ∧ Vals xs its.toList
mutual
/-- v stands for the data d at the heap H; no list of it lies at an address of N -/
inductive Dn (K : PySem.W.Frag) (N : Addr → Prop) (H : Hp) : V → PyData → Prop
  | non : Dn K N H .non .none
  | bl (b : Bool) : Dn K N H (.bl b) (.bool b)
  | int (i : Int) : Dn K N H (.int i) (.int i)
  | str (x : Str) : Dn K N H (.str x) (.str x)
  | lst {a : Addr} {xs : List V} {ds : List PyData} : Rd H a (.lst xs) → ¬ N a → DnAll K N H xs ds → Dn K N H (.ref a) (.list ds)
  | lstK {a : Addr} {xs : List V} {ds : List PyData} : SqK K a xs → DnAll K N H xs ds → Dn K N H (.ref a) (.list ds)
  | tup {a : Addr} {xs : List V} {ds : List PyData} : SqT K H a xs → DnAll K N H xs ds → Dn K N H (.ref a) (.tuple ds)
inductive DnAll (K : PySem.W.Frag) (N : Addr → Prop) (H : Hp) : List V → List PyData → Prop
  | nil : DnAll K N H [] []
  | cons {v : V} {vs : List V} {d : PyData} {ds : List PyData} : Dn K N H v d → DnAll K N H vs ds → DnAll K N H (v :: vs) (d :: ds)
end

section
variable {K : PySem.W.Frag} {N N' : Addr → Prop} {H H' : Hp}
mutual
theorem Dn.go (hl : ∀ a xs, Rd H a (.lst xs) → ¬ N a → Rd H' a (.lst xs) ∧ ¬ N' a) (ht : ∀ a xs, SqT K H a xs → SqT K H' a xs) : ∀ (d : PyData) (v : V), Dn K N H v d → Dn K N' H' v d
  | .none, _, h => by cases h; exact .non
  | .bool b, _, h => by cases h; exact .bl b
  | .int i, _, h => by cases h; exact .int i
  | .str x, _, h => by cases h; exact .str x
  | .list ds, _, h => by
    cases h with
    | lst r n a => exact .lst (hl _ _ r n).1 (hl _ _ r n).2 (DnAll.go hl ht ds _ a)
    | lstK r a => exact .lstK r (DnAll.go hl ht ds _ a)
  | .tuple ds, _, h => by
    cases h with
    | tup r a => exact .tup (ht _ _ r) (DnAll.go hl ht ds _ a)
  | .dict _, _, h => by cases h
theorem DnAll.go (hl : ∀ a xs, Rd H a (.lst xs) → ¬ N a → Rd H' a (.lst xs) ∧ ¬ N' a) (ht : ∀ a xs, SqT K H a xs → SqT K H' a xs) : ∀ (ds : List PyData) (vs : List V), DnAll K N H vs ds → DnAll K N' H' vs ds
  | [], _, h => by cases h; exact .nil
  | d :: ds, _, h => by
    cases h with
    | cons a b => exact .cons (Dn.go hl ht d _ a) (DnAll.go hl ht ds _ b)
end
end
mutual
/-- no list in it -/
def noList : PyData → Bool
  | .list _ => false
  | .tuple ds => noLists ds
  | .dict _ => false
  | _ => true
def noLists : List PyData → Bool
  | [] => true
  | d :: ds => noList d && noLists ds
end
section
variable {K : PySem.W.Frag} {N N' : Addr → Prop} {H H' : Hp}
mutual
theorem Dn.goF (ht : ∀ a xs, SqT K H a xs → SqT K H' a xs) : ∀ (d : PyData) (v : V), noList d = true → Dn K N H v d → Dn K N' H' v d
  | .none, _, _, h => by cases h; exact .non
  | .bool b, _, _, h => by cases h; exact .bl b
  | .int i, _, _, h => by cases h; exact .int i
  | .str x, _, _, h => by cases h; exact .str x
  | .list ds, _, q, _ => by simp [noList] at q
  | .tuple ds, _, q, h => by
    cases h with
    | tup r a => exact .tup (ht _ _ r) (DnAll.goF ht ds _ (by simpa [noList] using q) a)
  | .dict _, _, _, h => by cases h
theorem DnAll.goF (ht : ∀ a xs, SqT K H a xs → SqT K H' a xs) : ∀ (ds : List PyData) (vs : List V), noLists ds = true → DnAll K N H vs ds → DnAll K N' H' vs ds
  | [], _, _, h => by cases h; exact .nil
  | d :: ds, _, q, h => by
    cases h with
    | cons a b =>
      have q' : noList d = true ∧ noLists ds = true := by simpa [noLists] using q
      exact .cons (Dn.goF ht d _ q'.1 a) (DnAll.goF ht ds _ q'.2 b)
end
mutual
theorem Dn.dp : ∀ (d : PyData) (v : V), Dn K N H v d → Dp K H v d
  | .none, _, h => by cases h; exact .non
  | .bool b, _, h => by cases h; exact .bl b
  | .int i, _, h => by cases h; exact .int i
  | .str x, _, h => by cases h; exact .str x
  | .list ds, _, h => by
    cases h with
    | lst r n a => exact .lst (Or.inl r) (DnAll.dp ds _ a)
    | lstK r a => exact .lst (Or.inr r) (DnAll.dp ds _ a)
  | .tuple ds, _, h => by
    cases h with
    | tup r a => exact .tup r (DnAll.dp ds _ a)
  | .dict _, _, h => by cases h
theorem DnAll.dp : ∀ (ds : List PyData) (vs : List V), DnAll K N H vs ds → DpAll K H vs ds
  | [], _, h => by cases h; exact .nil
  | d :: ds, _, h => by
    cases h with
    | cons a b => exact .cons (Dn.dp d _ a) (DnAll.dp ds _ b)
end
theorem DnAll.length : ∀ {vs : List V} {ds : List PyData}, DnAll K N H vs ds → vs.length = ds.length
  | _, _, .nil => rfl
  | _, _, .cons _ t => congrArg (· + 1) (DnAll.length t)
theorem DnAll.get : ∀ {vs : List V} {ds : List PyData} {i : Nat} {d : PyData}, DnAll K N H vs ds → ds[i]? = some d → ∃ v, vs[i]? = some v ∧ Dn K N H v d
  | _, _, _, _, .nil, e => by simp at e
  | _, _, 0, _, .cons r _, e => by simp at e; subst e; exact ⟨_, rfl, r⟩
  | _, _, i + 1, _, .cons _ t, e => by
    obtain ⟨v, h1, h2⟩ := DnAll.get (i := i) t (by simpa using e)
    exact ⟨v, by simpa using h1, h2⟩
theorem DnAll.getV : ∀ {vs : List V} {ds : List PyData} {i : Nat} {v : V}, DnAll K N H vs ds → vs[i]? = some v → ∃ d, ds[i]? = some d ∧ Dn K N H v d
  | _, _, _, _, .nil, e => by simp at e
  | _, _, 0, _, .cons r _, e => by simp at e; subst e; exact ⟨_, rfl, r⟩
  | _, _, i + 1, _, .cons _ t, e => by
    obtain ⟨v, h1, h2⟩ := DnAll.getV (i := i) t (by simpa using e)
    exact ⟨v, by simpa using h1, h2⟩
theorem DnAll.append : ∀ {vs ws : List V} {ds es : List PyData}, DnAll K N H vs ds → DnAll K N H ws es → DnAll K N H (vs ++ ws) (ds ++ es)
  | _, _, _, _, .nil, s => s
  | _, _, _, _, .cons r t, s => .cons r (DnAll.append t s)
theorem DnAll.take : ∀ {vs : List V} {ds : List PyData} (n : Nat), DnAll K N H vs ds → DnAll K N H (vs.take n) (ds.take n)
  | _, _, 0, _ => .nil
  | _, _, _ + 1, .nil => .nil
  | _, _, n + 1, .cons r t => .cons r (DnAll.take n t)
theorem DnAll.drop : ∀ {vs : List V} {ds : List PyData} (n : Nat), DnAll K N H vs ds → DnAll K N H (vs.drop n) (ds.drop n)
  | _, _, 0, r => r
  | _, _, _ + 1, .nil => .nil
  | _, _, n + 1, .cons _ t => DnAll.drop n t
theorem DnAll.reverse : ∀ {vs : List V} {ds : List PyData}, DnAll K N H vs ds → DnAll K N H vs.reverse ds.reverse
  | _, _, .nil => .nil
  | _, _, .cons r t => by rw [List.reverse_cons, List.reverse_cons]; exact DnAll.append (DnAll.reverse t) (.cons r .nil)
theorem DnAll.ints : ∀ {vs : List V} {ns : List Int}, DnAll K N H vs (ns.map PyData.int) → vs = ns.map V.int
  | _, [], h => by cases h; rfl
  | _, n :: ns, h => by
    cases h with
    | cons a b => cases a; rw [DnAll.ints b]; rfl
theorem DnAll.bools : ∀ {vs : List V} {ns : List Bool}, DnAll K N H vs (ns.map PyData.bool) → vs = ns.map V.bl
  | _, [], h => by cases h; rfl
  | _, n :: ns, h => by
    cases h with
    | cons a b => cases a; rw [DnAll.bools b]; rfl
end

/-! ### heaps -/
open Evl (Ex Ex.refl Ex.trans Ex.new)
end DL
theorem Evl.Ex.rd {H H' : L2.Hp} {a : PySem.Addr} {u : L2.HO} (e : Evl.Ex H H') (h : L2.Rd H a u) : L2.Rd H' a u := Evl.ex_rd e h
theorem Evl.Ex.sqt {K : PySem.W.Frag} {H H' : L2.Hp} {a : PySem.Addr} {xs : List L2.V} (e : Evl.Ex H H') (h : L2.SqT K H a xs) : L2.SqT K H' a xs := Evl.ex_t e h
theorem Evl.Ex.sql {K : PySem.W.Frag} {H H' : L2.Hp} {a : PySem.Addr} {xs : List L2.V} (e : Evl.Ex H H') (h : L2.SqL K H a xs) : L2.SqL K H' a xs := Evl.ex_l e h
theorem Evl.Ex.free {H H' : L2.Hp} {p : PySem.Addr} (e : Evl.Ex H H') (h : H' p = none) : H p = none := Evl.fresh_back e h
theorem Evl.Ex.some {H H' : L2.Hp} {p : PySem.Addr} (e : Evl.Ex H H') (h : H p ≠ none) : H' p ≠ none := fun z => h (e.free z)
namespace DL
open PySem L2
open Evl (Ex Ex.refl Ex.trans Ex.new)
theorem Dn.ext {K : PySem.W.Frag} {N : Addr → Prop} {H H' : Hp} {v : V} {d : PyData} (e : Ex H H') (h : Dn K N H v d) : Dn K N H' v d :=
  Dn.go (fun _ _ r n => ⟨e.rd r, n⟩) (fun _ _ r => e.sqt r) d v h
theorem DnAll.ext {K : PySem.W.Frag} {N : Addr → Prop} {H H' : Hp} {v : List V} {d : List PyData} (e : Ex H H') (h : DnAll K N H v d) : DnAll K N H' v d :=
  DnAll.go (fun _ _ r n => ⟨e.rd r, n⟩) (fun _ _ r => e.sqt r) d v h
theorem Dn.sub {K : PySem.W.Frag} {N N' : Addr → Prop} {H : Hp} {v : V} {d : PyData} (e : ∀ a, N' a → N a) (h : Dn K N H v d) : Dn K N' H v d :=
  Dn.go (fun _ _ r n => ⟨r, fun z => n (e _ z)⟩) (fun _ _ r => r) d v h
theorem DnAll.sub {K : PySem.W.Frag} {N N' : Addr → Prop} {H : Hp} {v : List V} {d : List PyData} (e : ∀ a, N' a → N a) (h : DnAll K N H v d) : DnAll K N' H v d :=
  DnAll.go (fun _ _ r n => ⟨r, fun z => n (e _ z)⟩) (fun _ _ r => r) d v h
theorem Rd.some {H : Hp} {a : Addr} {u : HO} (h : Rd H a u) : H a ≠ none := by
  rcases h with h | ⟨o, h⟩
  · rw [h]; exact fun z => nomatch z
  · rw [h]; exact fun z => nomatch z
/-- an address that is free is not met -/
theorem Dn.add {K : PySem.W.Frag} {N : Addr → Prop} {H : Hp} {v : V} {d : PyData} {p : Addr} (hp : H p = none) (h : Dn K N H v d) : Dn K (fun a => N a ∨ a = p) H v d :=
  Dn.go (fun a _ r n => ⟨r, fun z => z.elim n fun q => by subst q; exact Rd.some r hp⟩) (fun _ _ r => r) d v h
theorem DnAll.add {K : PySem.W.Frag} {N : Addr → Prop} {H : Hp} {v : List V} {d : List PyData} {p : Addr} (hp : H p = none) (h : DnAll K N H v d) : DnAll K (fun a => N a ∨ a = p) H v d :=
  DnAll.go (fun a _ r n => ⟨r, fun z => z.elim n fun q => by subst q; exact Rd.some r hp⟩) (fun _ _ r => r) d v h
/-- what is no tuple and is not frozen -/
def Wr : HO → Bool
  | .tup _ => false
  | .frz _ _ => false
  | _ => true
theorem mut_t {K : PySem.W.Frag} {H : Hp} {p : Addr} {o o' : HO} (hp : H p = some o) (hw : Wr o = true) : ∀ a xs, SqT K H a xs → SqT K (upd H p o') a xs := by
  intro a xs h
  rcases h with (h | ⟨u, h⟩) | h
  · refine Or.inl (Or.inl ?_)
    rw [upd_ne]
    · exact h
    · intro z; subst z; rw [hp] at h; cases h; cases hw
  · refine Or.inl (Or.inr ⟨u, ?_⟩)
    rw [upd_ne]
    · exact h
    · intro z; subst z; rw [hp] at h; cases h; cases hw
  · exact Or.inr h
theorem Dn.mut {K : PySem.W.Frag} {N : Addr → Prop} {H : Hp} {v : V} {d : PyData} {p : Addr} {o o' : HO} (hp : H p = some o) (hw : Wr o = true) (hn : N p) (h : Dn K N H v d) : Dn K N (upd H p o') v d := by
  refine Dn.go (fun a xs r n => ⟨?_, n⟩) (mut_t hp hw) d v h
  have ne : a ≠ p := fun z => n (z ▸ hn)
  rcases r with r | ⟨u, r⟩
  · exact Or.inl (by rw [upd_ne ne]; exact r)
  · exact Or.inr ⟨u, by rw [upd_ne ne]; exact r⟩
theorem DnAll.mut {K : PySem.W.Frag} {N : Addr → Prop} {H : Hp} {v : List V} {d : List PyData} {p : Addr} {o o' : HO} (hp : H p = some o) (hw : Wr o = true) (hn : N p) (h : DnAll K N H v d) : DnAll K N (upd H p o') v d := by
  refine DnAll.go (fun a xs r n => ⟨?_, n⟩) (mut_t hp hw) d v h
  have ne : a ≠ p := fun z => n (z ▸ hn)
  rcases r with r | ⟨u, r⟩
  · exact Or.inl (by rw [upd_ne ne]; exact r)
  · exact Or.inr ⟨u, by rw [upd_ne ne]; exact r⟩

/-! ### the symbolic store -/
/-- a value: data, or the k-th object of the store -/
inductive SV where
  | i (d : PyData)
  | r (k : Nat)
/-- an object of the store; x: forgotten -/
inductive SO where
  | x
  | lst (xs : List SV)
  | dK (kvs : List (Key × SV))
  | dT (kvs : List (List Key × SV))
def SO.live : SO → Bool
  | .x => false
  | _ => true
abbrev Sy := List (Option SV)
def SvOk (K : PySem.W.Frag) (N : Addr → Prop) (ad : Nat → Addr) (n : Nat) (H : Hp) (v : V) : SV → Prop
  | .i d => Dn K N H v d
  | .r k => v = .ref (ad k) ∧ k < n
def SoOk (K : PySem.W.Frag) (N : Addr → Prop) (ad : Nat → Addr) (n : Nat) (H : Hp) (l : Addr) : SO → Prop
  | .x => True
  | .lst xs => ∃ vs, H l = some (.lst vs) ∧ Paired (SvOk K N ad n H) vs xs
  | .dK kvs => ∃ ws, H l = some (.dK ws) ∧ Paired (fun (p : Key × V) (q : Key × SV) => p.1 = q.1 ∧ SvOk K N ad n H p.2 q.2) ws kvs
  | .dT kvs => ∃ ws, H l = some (.dT ws) ∧ Paired (fun (p : List Key × V) (q : List Key × SV) => p.1 = q.1 ∧ SvOk K N ad n H p.2 q.2) ws kvs

structure Cn where
  K : PySem.W.Frag
  H0 : Hp
  N0 : Addr → Prop
  M : Addr → Prop := fun _ => False
  fr : List (V × SV) := []
  lo : Nat := 0
def Lv (os : List SO) (k : Nat) : Prop := ∃ o, os[k]? = some o ∧ o.live = true
def Nof (c : Cn) (ad : Nat → Addr) (os : List SO) : Addr → Prop := fun a => c.N0 a ∨ ∃ k, Lv os k ∧ a = ad k
structure Ok (c : Cn) (ad : Nat → Addr) (env : Sy) (os : List SO) (σ : St) (H : Hp) : Prop where
  len : σ.length = env.length
  ex : ∀ a o, c.H0 a = some o → ¬ c.M a → H a = some o
  n0 : ∀ a, c.N0 a → H a ≠ none
  val : ∀ (i : Nat) s, env[i]? = some (some s) → ∃ v, σ[i]? = some (some v) ∧ SvOk c.K (Nof c ad os) ad os.length H v s
  obj : ∀ (k : Nat) o, os[k]? = some o → o.live = true → (c.H0 (ad k) = none ∨ c.M (ad k)) ∧ SoOk c.K (Nof c ad os) ad os.length H (ad k) o
  inj : ∀ k j, Lv os k → Lv os j → ad k = ad j → k = j
  nn : ∀ k, Lv os k → ¬ c.N0 (ad k)
  frm : ∀ p ∈ c.fr, SvOk c.K (Nof c ad os) ad c.lo H p.1 p.2
  low : c.lo ≤ os.length

section
variable {c : Cn} {ad : Nat → Addr} {env : Sy} {os : List SO} {σ : St} {H H' : Hp}
theorem Paired.imp {α β : Type} {F G : α → β → Prop} : ∀ {l₁ : List α} {l₂ : List β}, Paired F l₁ l₂ → (∀ a b, F a b → G a b) → Paired G l₁ l₂
  | _, _, .nil, _ => .nil
  | _, _, .cons r t, f => .cons (f _ _ r) (Paired.imp t f)
theorem SvOk.ext {K : PySem.W.Frag} {N : Addr → Prop} {n : Nat} {v : V} {s : SV} (e : Ex H H') (h : SvOk K N ad n H v s) : SvOk K N ad n H' v s := by
  cases s with
  | i d => exact Dn.ext e h
  | r k => exact h
theorem SvOk.sub {K : PySem.W.Frag} {N N' : Addr → Prop} {n : Nat} {v : V} {s : SV} (e : ∀ a, N' a → N a) (h : SvOk K N ad n H v s) : SvOk K N' ad n H v s := by
  cases s with
  | i d => exact Dn.sub e h
  | r k => exact h
theorem SvOk.mut {K : PySem.W.Frag} {N : Addr → Prop} {n : Nat} {v : V} {s : SV} {p : Addr} {o o' : HO} (hp : H p = some o) (hw : Wr o = true) (hn : N p) (h : SvOk K N ad n H v s) : SvOk K N ad n (upd H p o') v s := by
  cases s with
  | i d => exact Dn.mut hp hw hn h
  | r k => exact h
theorem SoOk.map {K : PySem.W.Frag} {N N' : Addr → Prop} {ad ad' : Nat → Addr} {n n' : Nat} {l l' : Addr} {o : SO} (f : ∀ v s, SvOk K N ad n H v s → SvOk K N' ad' n' H' v s) (hl : ∀ u, H l = some u → H' l' = some u) (h : SoOk K N ad n H l o) : SoOk K N' ad' n' H' l' o := by
  cases o with
  | x => exact True.intro
  | lst xs => obtain ⟨vs, e, p⟩ := h; exact ⟨vs, hl _ e, Paired.imp p f⟩
  | dK kvs => obtain ⟨vs, e, p⟩ := h; exact ⟨vs, hl _ e, Paired.imp p fun a b q => ⟨q.1, f _ _ q.2⟩⟩
  | dT kvs => obtain ⟨vs, e, p⟩ := h; exact ⟨vs, hl _ e, Paired.imp p fun a b q => ⟨q.1, f _ _ q.2⟩⟩
theorem SoOk.some {K : PySem.W.Frag} {N : Addr → Prop} {n : Nat} {l : Addr} {o : SO} (h : SoOk K N ad n H l o) (hl : o.live = true) : ∃ u, H l = some u ∧ Wr u = true := by
  cases o with
  | x => cases hl
  | lst xs => obtain ⟨vs, e, p⟩ := h; exact ⟨_, e, rfl⟩
  | dK kvs => obtain ⟨vs, e, p⟩ := h; exact ⟨_, e, rfl⟩
  | dT kvs => obtain ⟨vs, e, p⟩ := h; exact ⟨_, e, rfl⟩
theorem Ok.nof (ok : Ok c ad env os σ H) {a : Addr} (h : Nof c ad os a) : H a ≠ none := by
  rcases h with h | ⟨k, ⟨o, e, l⟩, rfl⟩
  · exact ok.n0 a h
  · obtain ⟨u, q, _⟩ := (ok.obj k o e l).2.some l
    rw [q]; exact fun z => nomatch z
theorem Ok.ext (ok : Ok c ad env os σ H) (e : Ex H H') : Ok c ad env os σ H' where
  len := ok.len
  ex := fun a o h m => e a o (ok.ex a o h m)
  n0 := fun a h => e.some (ok.n0 a h)
  val := fun i s h => let ⟨v, h1, h2⟩ := ok.val i s h; ⟨v, h1, h2.ext e⟩
  obj := fun k o h l => let ⟨h1, h2⟩ := ok.obj k o h l; ⟨h1, h2.map (fun _ _ q => q.ext e) fun u q => e _ _ q⟩
  inj := ok.inj
  nn := ok.nn
  frm := fun p hp => (ok.frm p hp).ext e
  low := ok.low
theorem Ok.set {i : Nat} {v : V} {s : SV} (ok : Ok c ad env os σ H) (h : SvOk c.K (Nof c ad os) ad os.length H v s) : Ok c ad (env.set i (some s)) os (σ.set i (some v)) H where
  len := by simp [ok.len]
  ex := ok.ex
  n0 := ok.n0
  val := fun j t e => by
    by_cases q : i = j
    · subst q
      by_cases hi : i < env.length
      · rw [List.getElem?_set_self hi] at e
        have e' : s = t := Option.some.inj (Option.some.inj e)
        subst e'
        exact ⟨v, List.getElem?_set_self (by rw [ok.len]; exact hi), h⟩
      · rw [List.getElem?_eq_none (by simp; omega)] at e
        cases e
    · rw [List.getElem?_set_ne q] at e
      obtain ⟨w, h1, h2⟩ := ok.val j t e
      exact ⟨w, by rw [List.getElem?_set_ne q]; exact h1, h2⟩
  obj := ok.obj
  inj := ok.inj
  nn := ok.nn
  frm := ok.frm
  low := ok.low
/-- a slot is forgotten -/
theorem Ok.setU {i : Nat} {v : Option V} (ok : Ok c ad env os σ H) : Ok c ad (env.set i none) os (σ.set i v) H where
  len := by simp [ok.len]
  ex := ok.ex
  n0 := ok.n0
  val := fun j t e => by
    by_cases q : i = j
    · subst q
      by_cases hi : i < env.length
      · rw [List.getElem?_set_self hi] at e
        cases Option.some.inj e
      · rw [List.getElem?_eq_none (by simp; omega)] at e
        cases e
    · rw [List.getElem?_set_ne q] at e
      obtain ⟨w, h1, h2⟩ := ok.val j t e
      exact ⟨w, by rw [List.getElem?_set_ne q]; exact h1, h2⟩
  obj := ok.obj
  inj := ok.inj
  nn := ok.nn
  frm := ok.frm
  low := ok.low

/-! ### more in the store -/
def adN (ad : Nat → Addr) (n : Nat) (p : Addr) : Nat → Addr := fun j => if j = n then p else ad j
theorem adN_same {n : Nat} {p : Addr} : adN ad n p n = p := by unfold adN; rw [if_pos rfl]
theorem adN_ne {n j : Nat} {p : Addr} (h : j ≠ n) : adN ad n p j = ad j := by unfold adN; rw [if_neg h]
theorem SvOk.adN {K : PySem.W.Frag} {N : Addr → Prop} {n : Nat} {v : V} {s : SV} {p : Addr} (h : SvOk K N ad n H v s) : SvOk K N (adN ad n p) (n + 1) H v s := by
  cases s with
  | i d => exact h
  | r k => exact ⟨by rw [adN_ne (by have := h.2; omega)]; exact h.1, by have := h.2; omega⟩
theorem Lv_app {o : SO} {k : Nat} (h : Lv (os ++ [o]) k) : (Lv os k ∧ k < os.length) ∨ (k = os.length ∧ o.live = true) := by
  obtain ⟨u, e, l⟩ := h
  by_cases hk : k < os.length
  · rw [List.getElem?_append_left hk] at e
    exact Or.inl ⟨⟨u, e, l⟩, hk⟩
  · have hk2 : k = os.length := by
      have := (List.getElem?_eq_some_iff.mp e).1
      simp at this
      omega
    subst hk2
    rw [List.getElem?_append_right (Nat.le_refl _)] at e
    simp at e
    subst e
    exact Or.inr ⟨rfl, l⟩
theorem Nof_app {o : SO} {p : Addr} {a : Addr} (h : Nof c (adN ad os.length p) (os ++ [o]) a) : Nof c ad os a ∨ a = p := by
  rcases h with h | ⟨k, l, e⟩
  · exact Or.inl (Or.inl h)
  · rcases Lv_app l with ⟨l', hk⟩ | ⟨rfl, _⟩
    · rw [adN_ne (by omega)] at e
      exact Or.inl (Or.inr ⟨k, l', e⟩)
    · rw [adN_same] at e
      exact Or.inr e
/-- a new object -/
theorem Ok.new {o : SO} {p : Addr} (ok : Ok c ad env os σ H) (hp : H p = none) (e : Ex H H') (h0 : c.H0 p = none ∨ c.M p)
    (ho : SoOk c.K (fun a => Nof c ad os a ∨ a = p) ad os.length H' p o) : Ok c (adN ad os.length p) env (os ++ [o]) σ H' := by
  have hN : ∀ a, Nof c (adN ad os.length p) (os ++ [o]) a → Nof c ad os a ∨ a = p := fun a h => Nof_app h
  have hv : ∀ v s, SvOk c.K (Nof c ad os) ad os.length H v s → SvOk c.K (Nof c (adN ad os.length p) (os ++ [o])) (adN ad os.length p) (os ++ [o]).length H' v s := fun v s h => by
    have h1 : SvOk c.K (Nof c (adN ad os.length p) (os ++ [o])) ad os.length H' v s := by
      cases s with
      | i d => exact ((Dn.add hp h).sub hN).ext e
      | r k => exact h
    have h2 := h1.adN (p := p)
    simpa using h2
  have hv2 : ∀ v s, SvOk c.K (fun a => Nof c ad os a ∨ a = p) ad os.length H' v s → SvOk c.K (Nof c (adN ad os.length p) (os ++ [o])) (adN ad os.length p) (os ++ [o]).length H' v s := fun v s h => by
    have h2 := (h.sub hN).adN (p := p)
    simpa using h2
  refine ⟨ok.len, fun a u h m => e a u (ok.ex a u h m), fun a h => e.some (ok.n0 a h), fun i s h => ?_, fun k u h l => ?_, fun k j hk hj q => ?_, fun k hk => ?_, fun q hq => ?_, Nat.le_trans ok.low (by simp)⟩
  · obtain ⟨v, h1, h2⟩ := ok.val i s h
    exact ⟨v, h1, hv v s h2⟩
  · rcases Lv_app ⟨u, h, l⟩ with ⟨⟨u', e', l'⟩, hk⟩ | ⟨rfl, lo⟩
    · rw [List.getElem?_append_left hk] at h
      rw [adN_ne (by omega)]
      obtain ⟨h1, h2⟩ := ok.obj k u h l
      exact ⟨h1, h2.map hv fun w q => e _ _ q⟩
    · rw [List.getElem?_append_right (Nat.le_refl _)] at h
      simp at h
      subst h
      rw [adN_same]
      exact ⟨h0, ho.map hv2 fun w q => q⟩
  · rcases Lv_app hk with ⟨lk, hk'⟩ | ⟨rfl, _⟩
    · rcases Lv_app hj with ⟨lj, hj'⟩ | ⟨rfl, _⟩
      · rw [adN_ne (by omega), adN_ne (by omega)] at q
        exact ok.inj k j lk lj q
      · rw [adN_ne (by omega), adN_same] at q
        exact absurd hp (ok.nof (Or.inr ⟨k, lk, q.symm⟩))
    · rcases Lv_app hj with ⟨lj, hj'⟩ | ⟨rfl, _⟩
      · rw [adN_same, adN_ne (by omega)] at q
        exact absurd hp (ok.nof (Or.inr ⟨j, lj, q⟩))
      · rfl
  · rcases Lv_app hk with ⟨lk, hk'⟩ | ⟨rfl, _⟩
    · rw [adN_ne (by omega)]
      exact ok.nn k lk
    · rw [adN_same]
      intro z
      exact ok.n0 p z hp
  · have hf := ok.frm q hq
    obtain ⟨q1, q2⟩ := q
    cases q2 with
    | i d => exact ((Dn.add hp hf).sub hN).ext e
    | r k => exact ⟨by rw [adN_ne (by have h1 := hf.2; have h2 := ok.low; omega)]; exact hf.1, hf.2⟩
theorem Lv_set {o o' : SO} {k j : Nat} (h0 : os[k]? = some o) (l0 : o.live = true) (l : o'.live = true) : Lv (os.set k o') j ↔ Lv os j := by
  constructor
  · rintro ⟨u, e, hu⟩
    by_cases q : k = j
    · subst q; exact ⟨o, h0, l0⟩
    · rw [List.getElem?_set_ne q] at e; exact ⟨u, e, hu⟩
  · rintro ⟨u, e, hu⟩
    by_cases q : k = j
    · subst q; exact ⟨o', List.getElem?_set_self (List.getElem?_eq_some_iff.mp h0).1, l⟩
    · exact ⟨u, by rw [List.getElem?_set_ne q]; exact e, hu⟩
theorem Nof_set {o o' : SO} {k : Nat} (h0 : os[k]? = some o) (l0 : o.live = true) (l : o'.live = true) : Nof c ad (os.set k o') = Nof c ad os := by
  funext a
  refine propext ⟨fun h => ?_, fun h => ?_⟩
  · rcases h with h | ⟨j, lj, e⟩
    · exact Or.inl h
    · exact Or.inr ⟨j, (Lv_set h0 l0 l).mp lj, e⟩
  · rcases h with h | ⟨j, lj, e⟩
    · exact Or.inl h
    · exact Or.inr ⟨j, (Lv_set h0 l0 l).mpr lj, e⟩
/-- an object of the store is changed -/
theorem Ok.mut {o o' : SO} {k : Nat} {u' : HO} (ok : Ok c ad env os σ H) (h0 : os[k]? = some o) (l0 : o.live = true) (l : o'.live = true)
    (ho : SoOk c.K (Nof c ad os) ad os.length (upd H (ad k) u') (ad k) o') : Ok c ad env (os.set k o') σ (upd H (ad k) u') := by
  obtain ⟨hk0, hk1⟩ := ok.obj k o h0 l0
  obtain ⟨u, eu, wu⟩ := hk1.some l0
  have hN : Nof c ad os (ad k) := Or.inr ⟨k, ⟨o, h0, l0⟩, rfl⟩
  have hv : ∀ v s, SvOk c.K (Nof c ad os) ad os.length H v s → SvOk c.K (Nof c ad (os.set k o')) ad (os.set k o').length (upd H (ad k) u') v s := fun v s h => by
    rw [Nof_set h0 l0 l, List.length_set]
    exact h.mut eu wu hN
  refine ⟨ok.len, fun a w h m => ?_, fun a h => ?_, fun i s h => ?_, fun j w h lw => ?_, fun i j hi hj q => ok.inj i j ((Lv_set h0 l0 l).mp hi) ((Lv_set h0 l0 l).mp hj) q, fun j hj => ok.nn j ((Lv_set h0 l0 l).mp hj), fun q hq => ?_, by rw [List.length_set]; exact ok.low⟩
  · by_cases q : a = ad k
    · subst q
      rcases hk0 with z | z
      · rw [z] at h; cases h
      · exact absurd z m
    · rw [upd_ne q]; exact ok.ex a w h m
  · by_cases q : a = ad k
    · rw [q, upd_same]; exact fun z => nomatch z
    · rw [upd_ne q]; exact ok.n0 a h
  · obtain ⟨v, h1, h2⟩ := ok.val i s h
    exact ⟨v, h1, hv v s h2⟩
  · by_cases q : k = j
    · subst q
      rw [List.getElem?_set_self (List.getElem?_eq_some_iff.mp h0).1] at h
      cases h
      rw [Nof_set h0 l0 l, List.length_set]
      exact ⟨hk0, ho⟩
    · rw [List.getElem?_set_ne q] at h
      obtain ⟨h1, h2⟩ := ok.obj j w h lw
      refine ⟨h1, h2.map hv fun x hx => ?_⟩
      rw [upd_ne]
      · exact hx
      · intro z
        exact q (ok.inj k j ⟨o, h0, l0⟩ ⟨w, h, lw⟩ z.symm)
  · rw [Nof_set h0 l0 l]
    exact (ok.frm q hq).mut eu wu hN

/-! ### less known -/
def WkE : Sy → Sy → Prop
  | [], [] => True
  | s :: e, t :: e' => (t = none ∨ s = t) ∧ WkE e e'
  | _, _ => False
def WkO : List SO → List SO → Prop
  | _, [] => True
  | o :: r, o' :: r' => (o' = .x ∨ o = o') ∧ WkO r r'
  | [], _ :: _ => False
theorem WkE.len : ∀ {e e' : Sy}, WkE e e' → e.length = e'.length
  | [], [], _ => rfl
  | _ :: _, _ :: _, h => congrArg (· + 1) (WkE.len h.2)
theorem WkE.get : ∀ {e e' : Sy} {i : Nat} {s : SV}, WkE e e' → e'[i]? = some (some s) → e[i]? = some (some s)
  | [], [], _, _, _, q => by simp at q
  | a :: e, b :: e', 0, s, h, q => by
    simp at q ⊢
    rcases h.1 with z | z
    · rw [z] at q; cases q
    · rw [z]; exact q
  | a :: e, b :: e', i + 1, s, h, q => by
    simp at q ⊢
    exact WkE.get h.2 q
theorem WkE.refl : ∀ e : Sy, WkE e e
  | [] => True.intro
  | _ :: e => ⟨Or.inr rfl, WkE.refl e⟩
theorem WkO.refl : ∀ e : List SO, WkO e e
  | [] => True.intro
  | _ :: e => ⟨Or.inr rfl, WkO.refl e⟩
theorem WkO.get : ∀ {e e' : List SO} {i : Nat} {s : SO}, WkO e e' → e'[i]? = some s → s.live = true → e[i]? = some s
  | _, [], _, _, _, q, _ => by simp at q
  | a :: e, b :: e', 0, s, h, q, l => by
    simp at q ⊢
    rcases h.1 with z | z
    · rw [z] at q; subst q; cases l
    · rw [z]; exact q
  | a :: e, b :: e', i + 1, s, h, q, l => by
    simp at q ⊢
    exact WkO.get h.2 q l
theorem WkO.lv {e e' : List SO} {k : Nat} (h : WkO e e') (l : Lv e' k) : Lv e k := by
  obtain ⟨o, q, lo⟩ := l
  exact ⟨o, h.get q lo, lo⟩
/-- no place n or above it is named -/
def SvLt (n : Nat) : SV → Prop
  | .i _ => True
  | .r k => k < n
def SoLt (n : Nat) : SO → Prop
  | .x => True
  | .lst xs => ∀ s ∈ xs, SvLt n s
  | .dK kvs => ∀ p ∈ kvs, SvLt n p.2
  | .dT kvs => ∀ p ∈ kvs, SvLt n p.2
def EnLt (n : Nat) : Sy → Prop
  | [] => True
  | none :: e => EnLt n e
  | some s :: e => SvLt n s ∧ EnLt n e
def OsLt (n : Nat) : List SO → Prop
  | [] => True
  | o :: r => SoLt n o ∧ OsLt n r
theorem EnLt.get : ∀ {n : Nat} {e : Sy} {i : Nat} {s : SV}, EnLt n e → e[i]? = some (some s) → SvLt n s
  | _, [], _, _, _, q => by simp at q
  | n, none :: e, 0, s, h, q => by simp at q
  | n, some t :: e, 0, s, h, q => by simp at q; subst q; exact h.1
  | n, none :: e, i + 1, s, h, q => by simp at q; exact EnLt.get (e := e) h q
  | n, some t :: e, i + 1, s, h, q => by simp at q; exact EnLt.get h.2 q
theorem OsLt.get : ∀ {n : Nat} {e : List SO} {i : Nat} {s : SO}, OsLt n e → e[i]? = some s → SoLt n s
  | _, [], _, _, _, q => by simp at q
  | n, t :: e, 0, s, h, q => by simp at q; subst q; exact h.1
  | n, t :: e, i + 1, s, h, q => by simp at q; exact OsLt.get h.2 q
theorem Paired.impR {α β : Type} {F G : α → β → Prop} : ∀ {l₁ : List α} {l₂ : List β}, Paired F l₁ l₂ → (∀ a b, b ∈ l₂ → F a b → G a b) → Paired G l₁ l₂
  | _, _, .nil, _ => .nil
  | _, _, .cons r t, f => .cons (f _ _ (List.mem_cons_self ..) r) (Paired.impR t fun a b m => f a b (List.mem_cons_of_mem _ m))
theorem Ok.weak {env' : Sy} {os' : List SO} (ok : Ok c ad env os σ H) (he : WkE env env') (ho : WkO os os') (l1 : EnLt os'.length env') (l2 : OsLt os'.length os') (l3 : c.lo ≤ os'.length) : Ok c ad env' os' σ H := by
  have hN : ∀ a, Nof c ad os' a → Nof c ad os a := fun a h => by
    rcases h with h | ⟨k, l, e⟩
    · exact Or.inl h
    · exact Or.inr ⟨k, ho.lv l, e⟩
  have hv : ∀ v s, SvLt os'.length s → SvOk c.K (Nof c ad os) ad os.length H v s → SvOk c.K (Nof c ad os') ad os'.length H v s := fun v s l h => by
    cases s with
    | i d => exact Dn.sub hN h
    | r k => exact ⟨h.1, l⟩
  refine ⟨ok.len.trans he.len, ok.ex, ok.n0, fun i s h => ?_, fun k o h l => ?_, fun k j lk lj => ok.inj k j (ho.lv lk) (ho.lv lj), fun k lk => ok.nn k (ho.lv lk), fun p hp => (ok.frm p hp).sub hN, l3⟩
  · obtain ⟨v, h1, h2⟩ := ok.val i s (he.get h)
    exact ⟨v, h1, hv v s (l1.get h) h2⟩
  · obtain ⟨h1, h2⟩ := ok.obj k o (ho.get h l) l
    refine ⟨h1, ?_⟩
    have lt := l2.get h
    cases o with
    | x => exact True.intro
    | lst xs => obtain ⟨vs, e, p⟩ := h2; exact ⟨vs, e, Paired.impR p fun a b m q => hv _ _ (lt b m) q⟩
    | dK kvs => obtain ⟨vs, e, p⟩ := h2; exact ⟨vs, e, Paired.impR p fun a b m q => ⟨q.1, hv _ _ (lt b m) q.2⟩⟩
    | dT kvs => obtain ⟨vs, e, p⟩ := h2; exact ⟨vs, e, Paired.impR p fun a b m q => ⟨q.1, hv _ _ (lt b m) q.2⟩⟩
theorem paired_dn {K : PySem.W.Frag} {N : Addr → Prop} {n : Nat} : ∀ {vs : List V} {ds : List PyData}, Paired (SvOk K N ad n H) vs (ds.map SV.i) → DnAll K N H vs ds
  | _, [], h => by cases h; exact .nil
  | _, d :: ds, h => by
    cases h with
    | cons a b => exact .cons a (paired_dn b)
theorem dn_paired {K : PySem.W.Frag} {N : Addr → Prop} {n : Nat} : ∀ {vs : List V} {ds : List PyData}, DnAll K N H vs ds → Paired (SvOk K N ad n H) vs (ds.map SV.i)
  | _, _, .nil => .nil
  | _, _, .cons a b => .cons a (dn_paired b)
/-- a list of data is data from now on -/
theorem Ok.own {i k : Nat} {ds : List PyData} (ok : Ok c ad env os σ H) (hi : env[i]? = some (some (.r k))) (hk : os[k]? = some (.lst (ds.map SV.i))) :
    Ok c ad (env.set i (some (.i (.list ds)))) (os.set k .x) σ H := by
  have lk : Lv os k := ⟨_, hk, rfl⟩
  have hl : ∀ j, Lv (os.set k .x) j → Lv os j ∧ j ≠ k := fun j h => by
    obtain ⟨u, e, hu⟩ := h
    by_cases q : k = j
    · subst q
      rw [List.getElem?_set_self (List.getElem?_eq_some_iff.mp hk).1] at e
      cases e; cases hu
    · rw [List.getElem?_set_ne q] at e; exact ⟨⟨u, e, hu⟩, fun z => q z.symm⟩
  have hN : ∀ a, Nof c ad (os.set k .x) a → Nof c ad os a ∧ a ≠ ad k := fun a h => by
    rcases h with h | ⟨j, l, e⟩
    · exact ⟨Or.inl h, fun z => ok.nn k lk (z ▸ h)⟩
    · obtain ⟨l', ne⟩ := hl j l
      exact ⟨Or.inr ⟨j, l', e⟩, fun z => ne (ok.inj j k l' lk (e.symm.trans z))⟩
  have hv : ∀ v s, SvOk c.K (Nof c ad os) ad os.length H v s → SvOk c.K (Nof c ad (os.set k .x)) ad (os.set k .x).length H v s := fun v s h => by
    rw [List.length_set]
    exact h.sub fun a q => (hN a q).1
  obtain ⟨v0, hv0, e0, _⟩ := ok.val i _ hi
  obtain ⟨_, vs, hvs, pv⟩ := ok.obj k _ hk rfl
  have hd : Dn c.K (Nof c ad (os.set k .x)) H v0 (.list ds) := by
    rw [e0]
    exact .lst (Or.inl hvs) (fun z => (hN _ z).2 rfl) ((paired_dn pv).sub fun a q => (hN a q).1)
  refine ⟨by rw [List.length_set]; exact ok.len, ok.ex, ok.n0, fun j s h => ?_, fun j o h l => ?_, fun a b la lb => ok.inj a b (hl a la).1 (hl b lb).1, fun a la => ok.nn a (hl a la).1, fun p hp => (ok.frm p hp).sub fun a q => (hN a q).1, by rw [List.length_set]; exact ok.low⟩
  · by_cases q : i = j
    · subst q
      rw [List.getElem?_set_self (List.getElem?_eq_some_iff.mp hi).1] at h
      cases h
      exact ⟨v0, hv0, hd⟩
    · rw [List.getElem?_set_ne q] at h
      obtain ⟨v, h1, h2⟩ := ok.val j s h
      exact ⟨v, h1, hv v s h2⟩
  · by_cases q : k = j
    · subst q
      rw [List.getElem?_set_self (List.getElem?_eq_some_iff.mp hk).1] at h
      cases h; cases l
    · rw [List.getElem?_set_ne q] at h
      obtain ⟨h1, h2⟩ := ok.obj j o h l
      exact ⟨h1, h2.map hv fun u e => e⟩
/-- the same with other facts carried along -/
abbrev Cn.w (c : Cn) (fr : List (V × SV)) (lo : Nat) : Cn := ⟨c.K, c.H0, c.N0, c.M, fr, lo⟩
theorem SvOk.lift {K : PySem.W.Frag} {N : Addr → Prop} {n n' : Nat} {v : V} {s : SV} (e : n ≤ n') (h : SvOk K N ad n H v s) : SvOk K N ad n' H v s := by
  cases s with
  | i d => exact h
  | r k => exact ⟨h.1, Nat.lt_of_lt_of_le h.2 e⟩
/-- facts are carried along from here -/
theorem Ok.pin {v : V} {s : SV} (ok : Ok c ad env os σ H) (h : SvOk c.K (Nof c ad os) ad os.length H v s) : Ok (c.w ((v, s) :: c.fr) os.length) ad env os σ H :=
  ⟨ok.len, ok.ex, ok.n0, ok.val, ok.obj, ok.inj, ok.nn, fun p hp => by
    rcases List.mem_cons.mp hp with z | z
    · subst z; exact h
    · exact (ok.frm p z).lift ok.low, Nat.le_refl _⟩
theorem Ok.pin0 (ok : Ok c ad env os σ H) : Ok (c.w c.fr os.length) ad env os σ H :=
  ⟨ok.len, ok.ex, ok.n0, ok.val, ok.obj, ok.inj, ok.nn, fun p hp => (ok.frm p hp).lift ok.low, Nat.le_refl _⟩
end
end DL

set_option Elab.async false
set_option linter.all false
set_option maxRecDepth 100000
set_option maxHeartbeats 2000000
/-! The data layer: judgements and rules. -/
namespace DL
open PySem L2
open Evl (Ex Ex.refl Ex.trans Ex.new)

/-! ### judgements -/
/-- what is avoided: all of the store, or (w) what the caller wants avoided alone -/
def Nw (w : Bool) (c : Cn) (ad : Nat → Addr) (os : List SO) : Addr → Prop := fun a => c.N0 a ∨ (w = false ∧ ∃ k, Lv os k ∧ a = ad k)
theorem Nw_false {c : Cn} {ad : Nat → Addr} {os : List SO} : Nw false c ad os = Nof c ad os := by
  funext a
  exact propext ⟨fun h => h.elim Or.inl fun z => Or.inr z.2, fun h => h.elim Or.inl fun z => Or.inr ⟨rfl, z⟩⟩
theorem Nw_le {w : Bool} {c : Cn} {ad : Nat → Addr} {os : List SO} : ∀ a, Nw w c ad os a → Nof c ad os a := fun a h => h.elim Or.inl fun z => Or.inr z.2
theorem Nw_n0 {w : Bool} {c : Cn} {ad : Nat → Addr} {os : List SO} : ∀ a, c.N0 a → Nw w c ad os a := fun a h => Or.inl h
theorem Nw_true {c : Cn} {ad : Nat → Addr} {os : List SO} : ∀ a, Nw true c ad os a → c.N0 a := fun a h => h.elim id fun z => nomatch z.1

/-- te gives the data d; the heap is only added to -/
def EvX (w : Bool) (c : Cn) (env : Sy) (os : List SO) (te : TE) (d : PyData) : Prop := ∀ ad σ H, Ok c ad env os σ H → ∀ Q : VK, (∀ v H2, Ex H H2 → Dn c.K (Nw w c ad os) H2 v d → Q v H2) → te σ H Q
/-- te gives the k-th object -/
def EvR (c : Cn) (env : Sy) (os : List SO) (te : TE) (k : Nat) : Prop := k < os.length ∧ ∀ ad σ H, Ok c ad env os σ H → ∀ Q : VK, (∀ H2, Ex H H2 → Q (.ref (ad k)) H2) → te σ H Q
def EvS (c : Cn) (env : Sy) (os : List SO) (te : TE) : SV → Prop
  | .i d => EvX false c env os te d
  | .r k => EvR c env os te k
/-- te gives a new object -/
def EvF (c : Cn) (env : Sy) (os : List SO) (te : TE) (o : SO) : Prop := ∀ ad σ H, Ok c ad env os σ H → ∀ Q : VK, (∀ p H2, H p = none → Ex H H2 → SoOk c.K (fun a => Nof c ad os a ∨ a = p) ad os.length H2 p o → Q (.ref p) H2) → te σ H Q
/-- te gives a list that may be read -/
def EvI (c : Cn) (env : Sy) (os : List SO) (te : TE) (ss : List SV) : Prop := ∀ ad σ H, Ok c ad env os σ H → ∀ Q : VK, (∀ p vs H2, Ex H H2 → SqL c.K H2 p vs → Paired (SvOk c.K (Nof c ad os) ad os.length H2) vs ss → Q (.ref p) H2) → te σ H Q
def EvT (c : Cn) (env : Sy) (os : List SO) (tt : TT) (b : Bool) : Prop := ∀ ad σ H, Ok c ad env os σ H → ∀ Q : Bool → Hp → Prop, (∀ H2, Ex H H2 → Q b H2) → tt σ H Q
def EvA (w : Bool) (c : Cn) (env : Sy) (os : List SO) (ta : TA) (ds : List PyData) : Prop := ∀ ad σ H, Ok c ad env os σ H → ∀ Q : List V → Hp → Prop, (∀ vs H2, Ex H H2 → DnAll c.K (Nw w c ad os) H2 vs ds → Q vs H2) → ta σ H Q
def EvAS (c : Cn) (env : Sy) (os : List SO) (ta : TA) (ss : List SV) : Prop := ∀ ad σ H, Ok c ad env os σ H → ∀ Q : List V → Hp → Prop, (∀ vs H2, Ex H H2 → Paired (SvOk c.K (Nof c ad os) ad os.length H2) vs ss → Q vs H2) → ta σ H Q
def EvO (c : Cn) (env : Sy) (os : List SO) (to : TO) (o : Option Int) : Prop := ∀ ad σ H, Ok c ad env os σ H → ∀ Q : Option Int → Hp → Prop, (∀ H2, Ex H H2 → Q o H2) → to σ H Q

section
variable {w : Bool} {c : Cn} {env : Sy} {os : List SO} {te ta tb tl : TE} {d : PyData} {tt tu : TT}

/-! ### conversions -/
theorem EvX.weak (h : EvX false c env os te d) : EvX w c env os te d := fun ad σ H ok Q q => h ad σ H ok Q fun v H2 e r => q v H2 e (r.sub (by rw [Nw_false]; exact Nw_le))
theorem EvX.strong (hd : noList d = true) (h : EvX true c env os te d) : EvX w c env os te d := fun ad σ H ok Q q => h ad σ H ok Q fun v H2 e r => q v H2 e (Dn.goF (fun _ _ r => r) d v hd r)
theorem EvX.n0 (h : EvX w c env os te d) : EvX true c env os te d := fun ad σ H ok Q q => h ad σ H ok Q fun v H2 e r => q v H2 e (r.sub fun a z => Nw_n0 a (Nw_true a z))
theorem EvX.is {d' : PyData} (h : EvX w c env os te d) (e : d = d') : EvX w c env os te d' := e ▸ h
theorem EvT.is {b b' : Bool} (h : EvT c env os tt b) (e : b = b') : EvT c env os tt b' := e ▸ h
theorem EvF.ev {ds : List PyData} (h : EvF c env os te (.lst (ds.map SV.i))) : EvX w c env os te (.list ds) := EvX.weak fun ad σ H ok Q q => h ad σ H ok Q fun p H2 hp e r => by
  obtain ⟨vs, h1, h2⟩ := r
  refine q _ H2 e ?_
  rw [Nw_false]
  exact .lst (Or.inl h1) (fun z => ok.nof z hp) ((paired_dn h2).sub fun a z => Or.inl z)
theorem EvX.it {ds : List PyData} (h : EvX false c env os te (.list ds)) : EvI c env os te (ds.map SV.i) := fun ad σ H ok Q q => h ad σ H ok Q fun v H2 e r => by
  rw [Nw_false] at r
  cases r with
  | lst r n a => exact q _ _ H2 e (Or.inl r) (dn_paired a)
  | lstK r a => exact q _ _ H2 e (Or.inr r) (dn_paired a)
theorem EvR.it {k : Nat} {ss : List SV} (h : EvR c env os te k) (hk : os[k]? = some (.lst ss)) : EvI c env os te ss := fun ad σ H ok Q q => h.2 ad σ H ok Q fun H2 e => by
  obtain ⟨_, vs, h1, h2⟩ := (ok.ext e).obj k _ hk rfl
  exact q _ vs H2 e (Or.inl (Or.inl h1)) h2
theorem EvF.it {ss : List SV} (h : EvF c env os te (.lst ss)) : EvI c env os te ss := fun ad σ H ok Q q => h ad σ H ok Q fun p H2 hp e r => by
  obtain ⟨vs, h1, h2⟩ := r
  exact q _ vs H2 e (Or.inl (Or.inl h1)) (Paired.imp h2 fun _ _ z => z.sub fun a y => Or.inl y)
theorem EvR.data {k : Nat} {ds : List PyData} (h : EvR c env os te k) (hk : os[k]? = some (.lst (ds.map SV.i))) : EvX true c env os te (.list ds) := fun ad σ H ok Q q => h.2 ad σ H ok Q fun H2 e => by
  have ok2 := ok.ext e
  obtain ⟨_, vs, h1, h2⟩ := ok2.obj k _ hk rfl
  exact q _ H2 e (.lst (Or.inl h1) (fun z => ok2.nn k ⟨_, hk, rfl⟩ (Nw_true _ z)) ((paired_dn h2).sub fun a z => Or.inl (Nw_true a z)))

/-! ### names, constants -/
theorem ex_var {i : Nat} (h : env[i]? = some (some (.i d))) : EvX w c env os (tVar i) d := EvX.weak fun ad σ H ok Q q => by
  obtain ⟨v, h1, h2⟩ := ok.val i _ h
  exact ⟨v, h1, q v H (Ex.refl H) (by rw [Nw_false]; exact h2)⟩
theorem er_var {i k : Nat} (h : env[i]? = some (some (.r k))) (hk : k < os.length) : EvR c env os (tVar i) k := ⟨hk, fun ad σ H ok Q q => by
  obtain ⟨v, h1, h2⟩ := ok.val i _ h
  obtain ⟨rfl, _⟩ := h2
  exact ⟨_, h1, q H (Ex.refl H)⟩⟩
theorem ex_int {i : Int} : EvX w c env os (tC (.int i)) (.int i) := fun ad σ H ok Q q => q _ H (Ex.refl H) (.int i)
theorem ex_bl {i : Bool} : EvX w c env os (tC (.bl i)) (.bool i) := fun ad σ H ok Q q => q _ H (Ex.refl H) (.bl i)
theorem ex_str {i : Str} : EvX w c env os (tC (.str i)) (.str i) := fun ad σ H ok Q q => q _ H (Ex.refl H) (.str i)
theorem ex_non : EvX w c env os (tC .non) .none := fun ad σ H ok Q q => q _ H (Ex.refl H) .non
/-- a constant of the module that is an object -/
theorem ex_const {a : Addr} (h : ∀ N H, Dn c.K N H (.ref a) d) : EvX w c env os (tC (.ref a)) d := fun ad σ H ok Q q => q _ H (Ex.refl H) (h _ H)

/-! ### operators on ints -/
theorem dn_int {K : PySem.W.Frag} {N : Addr → Prop} {H : Hp} {v : V} {i : Int} (h : Dn K N H v (.int i)) : v = .int i := by cases h; rfl
theorem dn_bool {K : PySem.W.Frag} {N : Addr → Prop} {H : Hp} {v : V} {i : Bool} (h : Dn K N H v (.bool i)) : v = .bl i := by cases h; rfl
theorem dn_str {K : PySem.W.Frag} {N : Addr → Prop} {H : Hp} {v : V} {i : Str} (h : Dn K N H v (.str i)) : v = .str i := by cases h; rfl
theorem dn_none {K : PySem.W.Frag} {N : Addr → Prop} {H : Hp} {v : V} (h : Dn K N H v .none) : v = .non := by cases h; rfl
theorem ex_i2 {f : Int → Int → Int} {i j : Int} (ha : EvX true c env os ta (.int i)) (hb : EvX true c env os tb (.int j)) : EvX w c env os (tOp (rI0 fun i j => .int (f i j)) ta tb) (.int (f i j)) := fun ad σ H ok Q q =>
  ha ad σ H ok _ fun v H1 e1 r1 => hb ad σ H1 (ok.ext e1) _ fun u H2 e2 r2 => ⟨i, j, dn_int r1, dn_int r2, q _ H2 (e1.trans e2) (.int _)⟩
theorem ex_i2c {C : Int → Int → Prop} {f : Int → Int → Int} {i j : Int} (ha : EvX true c env os ta (.int i)) (hb : EvX true c env os tb (.int j)) (hc : C i j) : EvX w c env os (tOp (rI C fun i j => .int (f i j)) ta tb) (.int (f i j)) := fun ad σ H ok Q q =>
  ha ad σ H ok _ fun v H1 e1 r1 => hb ad σ H1 (ok.ext e1) _ fun u H2 e2 r2 => ⟨i, j, dn_int r1, dn_int r2, hc, q _ H2 (e1.trans e2) (.int _)⟩
theorem ex_b2 {f : Int → Int → Bool} {i j : Int} (ha : EvX true c env os ta (.int i)) (hb : EvX true c env os tb (.int j)) : EvX w c env os (tOp (rI0 fun i j => .bl (f i j)) ta tb) (.bool (f i j)) := fun ad σ H ok Q q =>
  ha ad σ H ok _ fun v H1 e1 r1 => hb ad σ H1 (ok.ext e1) _ fun u H2 e2 r2 => ⟨i, j, dn_int r1, dn_int r2, q _ H2 (e1.trans e2) (.bl _)⟩
theorem ex_u {f : Int → Int} {i : Int} (ha : EvX true c env os ta (.int i)) : EvX w c env os (tUn (rU fun i => .int (f i)) ta) (.int (f i)) := fun ad σ H ok Q q =>
  ha ad σ H ok _ fun v H1 e1 r1 => ⟨i, dn_int r1, q _ H1 e1 (.int _)⟩
theorem ex_eqI {i j : Int} (ha : EvX true c env os ta (.int i)) (hb : EvX true c env os tb (.int j)) : EvX w c env os (tOp rEq ta tb) (.bool (decide (i = j))) := fun ad σ H ok Q q =>
  ha ad σ H ok _ fun v H1 e1 r1 => hb ad σ H1 (ok.ext e1) _ fun u H2 e2 r2 => by
    cases dn_int r1; cases dn_int r2
    refine ⟨rfl, q _ H2 (e1.trans e2) ?_⟩
    rw [dec_int, Bool.beq_eq_decide_eq]
    exact .bl _
theorem ex_neI {i j : Int} (ha : EvX true c env os ta (.int i)) (hb : EvX true c env os tb (.int j)) : EvX w c env os (tOp rNe ta tb) (.bool (!decide (i = j))) := fun ad σ H ok Q q =>
  ha ad σ H ok _ fun v H1 e1 r1 => hb ad σ H1 (ok.ext e1) _ fun u H2 e2 r2 => by
    cases dn_int r1; cases dn_int r2
    refine ⟨rfl, q _ H2 (e1.trans e2) ?_⟩
    rw [dec_int, Bool.beq_eq_decide_eq]
    exact .bl _
theorem ex_eqB {i j : Bool} (ha : EvX true c env os ta (.bool i)) (hb : EvX true c env os tb (.bool j)) : EvX w c env os (tOp rEq ta tb) (.bool (i == j)) := fun ad σ H ok Q q =>
  ha ad σ H ok _ fun v H1 e1 r1 => hb ad σ H1 (ok.ext e1) _ fun u H2 e2 r2 => by
    cases dn_bool r1; cases dn_bool r2
    refine ⟨rfl, q _ H2 (e1.trans e2) ?_⟩
    rw [dec_bl]
    exact .bl _
theorem ex_neB {i j : Bool} (ha : EvX true c env os ta (.bool i)) (hb : EvX true c env os tb (.bool j)) : EvX w c env os (tOp rNe ta tb) (.bool (!(i == j))) := fun ad σ H ok Q q =>
  ha ad σ H ok _ fun v H1 e1 r1 => hb ad σ H1 (ok.ext e1) _ fun u H2 e2 r2 => by
    cases dn_bool r1; cases dn_bool r2
    refine ⟨rfl, q _ H2 (e1.trans e2) ?_⟩
    rw [dec_bl]
    exact .bl _
theorem ex_eqS {i j : Str} (ha : EvX true c env os ta (.str i)) (hb : EvX true c env os tb (.str j)) : EvX w c env os (tOp rEq ta tb) (.bool (i == j)) := fun ad σ H ok Q q =>
  ha ad σ H ok _ fun v H1 e1 r1 => hb ad σ H1 (ok.ext e1) _ fun u H2 e2 r2 => by
    cases dn_str r1; cases dn_str r2
    refine ⟨rfl, q _ H2 (e1.trans e2) ?_⟩
    rw [dec_str]
    exact .bl _
theorem ex_neS {i j : Str} (ha : EvX true c env os ta (.str i)) (hb : EvX true c env os tb (.str j)) : EvX w c env os (tOp rNe ta tb) (.bool (!(i == j))) := fun ad σ H ok Q q =>
  ha ad σ H ok _ fun v H1 e1 r1 => hb ad σ H1 (ok.ext e1) _ fun u H2 e2 r2 => by
    cases dn_str r1; cases dn_str r2
    refine ⟨rfl, q _ H2 (e1.trans e2) ?_⟩
    rw [dec_str]
    exact .bl _
/-- == of data -/
theorem ex_eqD {d e : PyData} (ha : EvX true c env os ta d) (hb : EvX true c env os tb e) (s1 : SeqAt.shaped d = true) (s2 : SeqAt.shaped e = true) : EvX w c env os (tOp (rEqD c.K) ta tb) (.bool (PyData.eqv d e)) := fun ad σ H ok Q q =>
  ha ad σ H ok _ fun v H1 e1 r1 => hb ad σ H1 (ok.ext e1) _ fun u H2 e2 r2 => ⟨d, e, (r1.ext e2).dp, r2.dp, s1, s2, q _ H2 (e1.trans e2) (.bl _)⟩
theorem ex_neD {d e : PyData} (ha : EvX true c env os ta d) (hb : EvX true c env os tb e) (s1 : SeqAt.shaped d = true) (s2 : SeqAt.shaped e = true) : EvX w c env os (tOp (rNeD c.K) ta tb) (.bool (!PyData.eqv d e)) := fun ad σ H ok Q q =>
  ha ad σ H ok _ fun v H1 e1 r1 => hb ad σ H1 (ok.ext e1) _ fun u H2 e2 r2 => ⟨d, e, (r1.ext e2).dp, r2.dp, s1, s2, q _ H2 (e1.trans e2) (.bl _)⟩
theorem ex_isN {r : R2} (hr : r = (fun x y H Q => y = .non ∧ Q (.bl (decide (x = .non))) H)) (ha : EvX true c env os ta d) : EvX w c env os (tOp r ta (tC .non)) (.bool (match d with | .none => true | _ => false)) := fun ad σ H ok Q q => by
  subst hr
  refine ha ad σ H ok _ fun v H1 e1 r1 => ⟨rfl, q _ H1 e1 ?_⟩
  cases r1 <;> exact .bl _
theorem ex_notN {r : R2} (hr : r = (fun x y H Q => y = .non ∧ Q (.bl (!decide (x = .non))) H)) (ha : EvX true c env os ta d) : EvX w c env os (tOp r ta (tC .non)) (.bool (match d with | .none => false | _ => true)) := fun ad σ H ok Q q => by
  subst hr
  refine ha ad σ H ok _ fun v H1 e1 r1 => ⟨rfl, q _ H1 e1 ?_⟩
  cases r1 <;> exact .bl _
/-- a op b op c -/
theorem ex_chain {r r' : R2} {ta tb tc : TE} {f g : Int → Int → Bool} {i j k : Int} (hr : r = rI0 fun i j => .bl (f i j)) (hr' : r' = rI0 fun i j => .bl (g i j)) (ha : EvX true c env os ta (.int i)) (hb : EvX true c env os tb (.int j)) (hc : EvX true c env os tc (.int k)) :
    EvX w c env os (tChain r r' ta tb tc) (.bool (f i j && g j k)) := fun ad σ H ok Q q => by
  subst hr hr'
  refine ha ad σ H ok _ fun v H1 e1 r1 => hb ad σ H1 (ok.ext e1) _ fun u H2 e2 r2 => ⟨i, j, dn_int r1, dn_int r2, f i j, rfl, ?_⟩
  cases hf : f i j with
  | true =>
    rw [if_pos rfl]
    exact hc ad σ H2 ((ok.ext e1).ext e2) _ fun z H3 e3 r3 => ⟨j, k, dn_int r2, dn_int r3, q _ H3 ((e1.trans e2).trans e3) (by rw [hf]; exact .bl _)⟩
  | false =>
    rw [if_neg (by decide)]
    exact q _ H2 (e1.trans e2) (by rw [hf]; exact .bl _)

/-! ### tests -/
theorem et_test {b : Bool} (h : EvX true c env os te (.bool b)) : EvT c env os (tTest te) b := fun ad σ H ok Q q => h ad σ H ok _ fun v H2 e r => ⟨b, dn_bool r, q H2 e⟩
theorem et_B {b : Bool} (h : EvX true c env os te (.bool b)) : EvT c env os (tB te) b := fun ad σ H ok Q q => h ad σ H ok _ fun v H2 e r => ⟨b, dn_bool r, q H2 e⟩
theorem et_and {a b : Bool} (h1 : EvT c env os tt a) (h2 : a = true → EvT c env os tu b) : EvT c env os (tAnd tt tu) (a && b) := fun ad σ H ok Q q => h1 ad σ H ok _ fun H2 e2 => by
  cases a with
  | true =>
    show tu σ H2 Q
    exact h2 rfl ad σ H2 (ok.ext e2) Q fun H3 e3 => q H3 (e2.trans e3)
  | false =>
    show Q false H2
    exact q H2 e2
theorem et_or {a b : Bool} (h1 : EvT c env os tt a) (h2 : a = false → EvT c env os tu b) : EvT c env os (tOr tt tu) (a || b) := fun ad σ H ok Q q => h1 ad σ H ok _ fun H2 e2 => by
  cases a with
  | true =>
    show Q true H2
    exact q H2 e2
  | false =>
    show tu σ H2 Q
    exact h2 rfl ad σ H2 (ok.ext e2) Q fun H3 e3 => q H3 (e2.trans e3)
theorem et_not {a : Bool} (h1 : EvT c env os tt a) : EvT c env os (tNot tt) (!a) := fun ad σ H ok Q q => h1 ad σ H ok _ fun H2 e2 => q H2 e2
theorem ex_and {a b : Bool} (h1 : EvX true c env os ta (.bool a)) (h2 : a = true → EvX true c env os tb (.bool b)) : EvX w c env os (tAndV ta tb) (.bool (a && b)) := fun ad σ H ok Q q => h1 ad σ H ok _ fun v H2 e2 r2 => ⟨a, dn_bool r2, by
  cases a with
  | true =>
    rw [if_pos rfl]
    exact h2 rfl ad σ H2 (ok.ext e2) Q fun u H3 e3 r3 => q u H3 (e2.trans e3) (by cases r3; exact .bl _)
  | false =>
    rw [if_neg (by decide)]
    exact q _ H2 e2 (.bl _)⟩
theorem ex_or {a b : Bool} (h1 : EvX true c env os ta (.bool a)) (h2 : a = false → EvX true c env os tb (.bool b)) : EvX w c env os (tOrV ta tb) (.bool (a || b)) := fun ad σ H ok Q q => h1 ad σ H ok _ fun v H2 e2 r2 => ⟨a, dn_bool r2, by
  cases a with
  | true =>
    rw [if_pos rfl]
    exact q _ H2 e2 (.bl _)
  | false =>
    rw [if_neg (by decide)]
    exact h2 rfl ad σ H2 (ok.ext e2) Q fun u H3 e3 r3 => q u H3 (e2.trans e3) (by cases r3; exact .bl _)⟩
theorem ex_not {a : Bool} (h1 : EvX true c env os ta (.bool a)) : EvX w c env os (tNotV ta) (.bool (!a)) := fun ad σ H ok Q q => h1 ad σ H ok _ fun v H2 e2 r2 => ⟨a, dn_bool r2, q _ H2 e2 (.bl _)⟩
theorem ex_if {b : Bool} (h : EvT c env os tt b) (h1 : b = true → EvX w c env os ta d) (h2 : b = false → EvX w c env os tb d) : EvX w c env os (tIf tt ta tb) d := fun ad σ H ok Q q => h ad σ H ok _ fun H2 e2 => by
  cases b with
  | true =>
    show ta σ H2 Q
    exact h1 rfl ad σ H2 (ok.ext e2) Q fun v H3 e3 => q v H3 (e2.trans e3)
  | false =>
    show tb σ H2 Q
    exact h2 rfl ad σ H2 (ok.ext e2) Q fun v H3 e3 => q v H3 (e2.trans e3)
/-- the truth of a list -/
theorem et_truL {r : V → Hp → (Bool → Hp → Prop) → Prop} {ss : List SV} (hr : r = fun x H Q => ∃ k, TruV c.K x H k ∧ Q k H) (h : EvI c env os te ss) : EvT c env os (fun σ H Q => te σ H fun x H' => r x H' Q) (!ss.isEmpty) := fun ad σ H ok Q q => by
  subst hr
  refine h ad σ H ok _ fun p vs H2 e s r => ⟨!ss.isEmpty, Or.inl ⟨vs, s, ?_⟩, q H2 e⟩
  cases r <;> rfl

/-! ### argument lists -/
theorem ea_nil : EvA w c env os tNil [] := fun ad σ H ok Q q => q [] H (Ex.refl H) .nil
theorem ea_cons {tr : TA} {ds : List PyData} (h : EvX w c env os te d) (hr : EvA w c env os tr ds) : EvA w c env os (tCons te tr) (d :: ds) := fun ad σ H ok Q q =>
  h ad σ H ok _ fun v H2 e2 r2 => hr ad σ H2 (ok.ext e2) _ fun vs H3 e3 r3 => q _ H3 (e2.trans e3) (.cons (r2.ext e3) r3)
theorem eas_nil : EvAS c env os tNil [] := fun ad σ H ok Q q => q [] H (Ex.refl H) .nil
theorem eas_cons {tr : TA} {s : SV} {ss : List SV} (h : EvS c env os te s) (hr : EvAS c env os tr ss) : EvAS c env os (tCons te tr) (s :: ss) := fun ad σ H ok Q q => by
  cases s with
  | i d => exact (show EvX false c env os te d from h) ad σ H ok _ fun v H2 e2 r2 => hr ad σ H2 (ok.ext e2) _ fun vs H3 e3 r3 => q _ H3 (e2.trans e3) (.cons (show Dn _ _ _ _ _ by rw [Nw_false] at r2; exact r2.ext e3) r3)
  | r k =>
    obtain ⟨hk, h⟩ := (show EvR c env os te k from h)
    exact h ad σ H ok _ fun H2 e2 => hr ad σ H2 (ok.ext e2) _ fun vs H3 e3 r3 => q _ H3 (e2.trans e3) (.cons ⟨rfl, hk⟩ r3)
theorem EvA.ss {ta : TA} {ds : List PyData} (h : EvA false c env os ta ds) : EvAS c env os ta (ds.map SV.i) := fun ad σ H ok Q q => h ad σ H ok Q fun vs H2 e r => q vs H2 e (by rw [Nw_false] at r; exact dn_paired r)

/-! ### displays -/
theorem ex_tup {ta : TA} {ds : List PyData} (h : EvA w c env os ta ds) (hl : ds.length ≤ 100000) : EvX w c env os (tTup ta) (.tuple ds) := fun ad σ H ok Q q =>
  h ad σ H ok _ fun vs H2 e r => ⟨Nat.le_trans (by rw [r.length]; exact hl) (by decide), fun p hp => q _ _ (e.trans (Ex.new hp)) (.tup (SqT.of upd_same) (r.ext (Ex.new hp)))⟩
theorem ef_lst {ta : TA} {ss : List SV} (h : EvAS c env os ta ss) (hl : ss.length ≤ 100000) : EvF c env os (tLst ta) (.lst ss) := fun ad σ H ok Q q =>
  h ad σ H ok _ fun vs H2 e r => ⟨Nat.le_trans (by rw [Paired.length r]; exact hl) (by decide), fun p hp => q p _ (e.free hp) (e.trans (Ex.new hp)) ⟨vs, upd_same, Paired.imp r fun v s z => by
    cases s with
    | i d => exact (Dn.add hp z).ext (Ex.new hp)
    | r k => exact z⟩⟩

/-! ### subscripts -/
theorem ex_ixT {tb : TE} {ds : List PyData} {i : Int} (h : EvX w c env os ta (.tuple ds)) (hi : EvX true c env os tb (.int i)) (hd : atI ds i = some d) : EvX w c env os (tOp (rIxT c.K) ta tb) d := fun ad σ H ok Q q =>
  h ad σ H ok _ fun v H1 e1 r1 => hi ad σ H1 (ok.ext e1) _ fun u H2 e2 r2 => by
    have r1' := r1.ext e2
    cases dn_int r2
    cases r1' with
    | tup r a =>
      obtain ⟨j, z1, z2⟩ : ∃ j, ixN ds.length i = some j ∧ ds[j]? = some d := by
        unfold atI at hd
        cases hx : ixN ds.length i with
        | none => rw [hx] at hd; cases hd
        | some j => rw [hx] at hd; exact ⟨j, rfl, hd⟩
      obtain ⟨v, y1, y2⟩ := a.get z2
      refine ⟨_, _, i, v, rfl, rfl, r, ?_, q v H2 (e1.trans e2) y2⟩
      unfold atI
      rw [a.length, z1]
      exact y1
theorem paired_get {α β : Type} {F : α → β → Prop} : ∀ {l₁ : List α} {l₂ : List β} {i : Nat} {b : β}, Paired F l₁ l₂ → l₂[i]? = some b → ∃ a, l₁[i]? = some a ∧ F a b
  | _, _, _, _, .nil, e => by simp at e
  | _, _, 0, _, .cons r _, e => by simp at e; subst e; exact ⟨_, rfl, r⟩
  | _, _, i + 1, _, .cons _ t, e => by
    obtain ⟨v, h1, h2⟩ := paired_get (i := i) t (by simpa using e)
    exact ⟨v, by simpa using h1, h2⟩
theorem paired_getL {α β : Type} {F : α → β → Prop} : ∀ {l₁ : List α} {l₂ : List β} {i : Nat} {a : α}, Paired F l₁ l₂ → l₁[i]? = some a → ∃ b, l₂[i]? = some b ∧ F a b
  | _, _, _, _, .nil, e => by simp at e
  | _, _, 0, _, .cons r _, e => by simp at e; subst e; exact ⟨_, rfl, r⟩
  | _, _, i + 1, _, .cons _ t, e => by
    obtain ⟨v, h1, h2⟩ := paired_getL (i := i) t (by simpa using e)
    exact ⟨v, by simpa using h1, h2⟩
theorem paired_at {α β : Type} {F : α → β → Prop} {l₁ : List α} {l₂ : List β} {i : Int} {b : β} (p : Paired F l₁ l₂) (h : atI l₂ i = some b) : ∃ a, atI l₁ i = some a ∧ F a b := by
  unfold atI at h
  cases hx : ixN l₂.length i with
  | none => rw [hx] at h; cases h
  | some j =>
    rw [hx] at h
    obtain ⟨a, h1, h2⟩ := paired_get p (show l₂[j]? = some b from h)
    refine ⟨a, ?_, h2⟩
    unfold atI
    rw [Paired.length p, hx]
    exact h1
/-- xs[i] of a list -/
theorem ex_ixL {tb : TE} {ss : List SV} {i : Int} (h : EvI c env os ta ss) (hi : EvX true c env os tb (.int i)) (hd : atI ss i = some (.i d)) : EvX w c env os (tOp (rIxL c.K) ta tb) d := EvX.weak fun ad σ H ok Q q =>
  h ad σ H ok _ fun p vs H1 e1 s1 r1 => hi ad σ H1 (ok.ext e1) _ fun u H2 e2 r2 => by
    cases dn_int r2
    obtain ⟨v, h1, h2⟩ := paired_at r1 hd
    exact ⟨p, vs, i, v, rfl, rfl, e2.sql s1, h1, q v H2 (e1.trans e2) (by rw [Nw_false]; exact Dn.ext e2 h2)⟩
/-- .. of data, told weakly -/
theorem ex_ixLD {tb : TE} {ds : List PyData} {i : Int} (h : EvX w c env os ta (.list ds)) (hi : EvX true c env os tb (.int i)) (hd : atI ds i = some d) : EvX w c env os (tOp (rIxL c.K) ta tb) d := fun ad σ H ok Q q =>
  h ad σ H ok _ fun v H1 e1 r1 => hi ad σ H1 (ok.ext e1) _ fun u H2 e2 r2 => by
    have r1' := r1.ext e2
    cases dn_int r2
    obtain ⟨j, z1, z2⟩ : ∃ j, ixN ds.length i = some j ∧ ds[j]? = some d := by
      unfold atI at hd
      cases hx : ixN ds.length i with
      | none => rw [hx] at hd; cases hd
      | some j => rw [hx] at hd; exact ⟨j, rfl, hd⟩
    cases r1' with
    | lst r n a =>
      obtain ⟨v, y1, y2⟩ := a.get z2
      refine ⟨_, _, i, v, rfl, rfl, Or.inl r, ?_, q v H2 (e1.trans e2) y2⟩
      unfold atI
      rw [a.length, z1]
      exact y1
    | lstK r a =>
      obtain ⟨v, y1, y2⟩ := a.get z2
      refine ⟨_, _, i, v, rfl, rfl, Or.inr r, ?_, q v H2 (e1.trans e2) y2⟩
      unfold atI
      rw [a.length, z1]
      exact y1
theorem eo_none : EvO c env os tNoPart none := fun ad σ H ok Q q => q H (Ex.refl H)
theorem eo_some {i : Int} (h : EvX true c env os te (.int i)) : EvO c env os (tPart te) (some i) := fun ad σ H ok Q q => h ad σ H ok _ fun v H2 e r => ⟨i, dn_int r, q H2 e⟩
def cutG {α : Type} (xs : List α) (lo hi : Option Int) : List α := (xs.drop (HT.sIx xs.length 0 lo)).take (HT.sIx xs.length xs.length hi - HT.sIx xs.length 0 lo)
theorem Paired.drop {α β : Type} {F : α → β → Prop} : ∀ {l₁ : List α} {l₂ : List β} (n : Nat), Paired F l₁ l₂ → Paired F (l₁.drop n) (l₂.drop n)
  | _, _, 0, r => r
  | _, _, _ + 1, .nil => .nil
  | _, _, n + 1, .cons _ t => Paired.drop n t
theorem Paired.take {α β : Type} {F : α → β → Prop} : ∀ {l₁ : List α} {l₂ : List β} (n : Nat), Paired F l₁ l₂ → Paired F (l₁.take n) (l₂.take n)
  | _, _, 0, r => .nil
  | _, _, _ + 1, .nil => .nil
  | _, _, n + 1, .cons r t => .cons r (Paired.take n t)
theorem ef_slice {tl th : TO} {ss : List SV} {lo hi : Option Int} (h : EvI c env os te ss) (h1 : EvO c env os tl lo) (h2 : EvO c env os th hi) : EvF c env os (tSl (rSlL c.K) te tl th) (.lst (cutG ss lo hi)) := fun ad σ H ok Q q =>
  h ad σ H ok _ fun p vs H1 e1 s1 r1 => h1 ad σ H1 (ok.ext e1) _ fun H2 e2 => h2 ad σ H2 ((ok.ext e1).ext e2) _ fun H3 e3 =>
    ⟨p, vs, rfl, (e2.trans e3).sql s1, fun l hl => q l _ (((e1.trans e2).trans e3).free hl) (((e1.trans e2).trans e3).trans (Ex.new hl)) ⟨cutV vs lo hi, upd_same, by
      have r2 : Paired (SvOk c.K (Nof c ad os) ad os.length H3) (cutV vs lo hi) (cutG ss lo hi) := by
        unfold cutV cutG
        rw [Paired.length r1]
        exact Paired.take _ (Paired.drop _ (Paired.imp r1 fun _ _ z => z.ext (e2.trans e3)))
      exact Paired.imp r2 fun v s z => by
        cases s with
        | i d => exact (Dn.add hl z).ext (Ex.new hl)
        | r k => exact z⟩⟩

/-! ### built-ins -/
theorem ex_len {r : List V → Hp → VK → Prop} {ss : List SV} (hr : r = fun xs H Q => ∃ p ys, xs = [.ref p] ∧ (SqL c.K H p ys ∨ SqT c.K H p ys) ∧ Q (.int ys.length) H) (h : EvI c env os te ss) : EvX w c env os (tCB r (tCons te tNil)) (.int (ss.length : Int)) := fun ad σ H ok Q q => by
  subst hr
  refine h ad σ H ok _ fun p vs H2 e s r => ⟨p, vs, rfl, Or.inl s, ?_⟩
  rw [Paired.length r]
  exact q _ H2 e (.int _)
theorem ex_lenT {r : List V → Hp → VK → Prop} {ds : List PyData} (hr : r = fun xs H Q => ∃ p ys, xs = [.ref p] ∧ (SqL c.K H p ys ∨ SqT c.K H p ys) ∧ Q (.int ys.length) H) (h : EvX true c env os te (.tuple ds)) : EvX w c env os (tCB r (tCons te tNil)) (.int (ds.length : Int)) := fun ad σ H ok Q q => by
  subst hr
  refine h ad σ H ok _ fun v H2 e s => ?_
  cases s with
  | tup s a =>
    refine ⟨_, _, rfl, Or.inr s, ?_⟩
    rw [a.length]
    exact q _ H2 e (.int _)
theorem ef_list {r : List V → Hp → VK → Prop} {ss : List SV} (hr : r = fun xs H Q => ∃ p ys, xs = [.ref p] ∧ (SqL c.K H p ys ∨ SqT c.K H p ys) ∧ ∀ l, H l = none → Q (.ref l) (upd H l (.lst ys))) (h : EvI c env os te ss) : EvF c env os (tCB r (tCons te tNil)) (.lst ss) := fun ad σ H ok Q q => by
  subst hr
  refine h ad σ H ok _ fun p vs H2 e s r => ⟨p, vs, rfl, Or.inl s, fun l hl => q l _ (e.free hl) (e.trans (Ex.new hl)) ⟨vs, upd_same, Paired.imp r fun v s z => by
    cases s with
    | i d => exact (Dn.add hl z).ext (Ex.new hl)
    | r k => exact z⟩⟩
/-- a built-in of ints -/
theorem ex_cb {r : List V → Hp → VK → Prop} {ta : TA} {ds : List PyData} (h : EvA w c env os ta ds) (hr : ∀ ad H vs, DnAll c.K (Nw w c ad os) H vs ds → ∀ Q : VK, (∀ v, Dn c.K (Nw w c ad os) H v d → Q v H) → r vs H Q) : EvX w c env os (tCB r ta) d := fun ad σ H ok Q q =>
  h ad σ H ok _ fun vs H2 e a => hr ad H2 vs a Q fun v z => q v H2 e z
theorem ex_int1 {r : List V → Hp → VK → Prop} {i : Int} (hr : r = fun xs H Q => (∃ i, xs = [.int i] ∧ Q (.int i) H) ∨ ∃ k, xs = [.bl k] ∧ Q (.int (if k then 1 else 0)) H) (h : EvX true c env os te (.int i)) : EvX w c env os (tCB r (tCons te tNil)) (.int i) := fun ad σ H ok Q q => by
  subst hr
  exact h ad σ H ok _ fun v H2 e a => Or.inl ⟨i, by rw [dn_int a], q _ H2 e (.int i)⟩
theorem ex_max2 {r : List V → Hp → VK → Prop} {i j : Int} (hr : r = fun xs H Q => ∃ i j, xs = [.int i, .int j] ∧ Q (.int (if j > i then j else i)) H) (ha : EvX true c env os ta (.int i)) (hb : EvX true c env os tb (.int j)) : EvX w c env os (tCB r (tCons ta (tCons tb tNil))) (.int (max i j)) := fun ad σ H ok Q q => by
  subst hr
  refine ha ad σ H ok _ fun v H1 e1 a => hb ad σ H1 (ok.ext e1) _ fun u H2 e2 b => ⟨i, j, by rw [dn_int a, dn_int b], q _ H2 (e1.trans e2) ?_⟩
  have : (if j > i then j else i) = max i j := by split <;> omega
  rw [this]
  exact .int _
theorem ex_min2 {r : List V → Hp → VK → Prop} {i j : Int} (hr : r = fun xs H Q => ∃ i j, xs = [.int i, .int j] ∧ Q (.int (if j < i then j else i)) H) (ha : EvX true c env os ta (.int i)) (hb : EvX true c env os tb (.int j)) : EvX w c env os (tCB r (tCons ta (tCons tb tNil))) (.int (min i j)) := fun ad σ H ok Q q => by
  subst hr
  refine ha ad σ H ok _ fun v H1 e1 a => hb ad σ H1 (ok.ext e1) _ fun u H2 e2 b => ⟨i, j, by rw [dn_int a, dn_int b], q _ H2 (e1.trans e2) ?_⟩
  have : (if j < i then j else i) = min i j := by split <;> omega
  rw [this]
  exact .int _
/-- xs + ys, both new -/
theorem ef_cat {ss us : List SV} (ha : EvF c env os ta (.lst ss)) (hb : EvF c env os tb (.lst us)) (hl : ss.length + us.length ≤ 100000) : EvF c env os (tOp rCat ta tb) (.lst (ss ++ us)) := fun ad σ H ok Q q => by
  refine ha ad σ H ok _ fun a H1 pa e1 r1 => hb ad σ H1 (ok.ext e1) _ fun b H2 pb e2 r2 => ?_
  obtain ⟨xs, s1, r1⟩ := r1
  obtain ⟨ys, s2, r2⟩ := r2
  refine ⟨a, b, xs, ys, rfl, rfl, e2 _ _ s1, s2, ?_, fun p hp => q p _ ((e1.trans e2).free hp) ((e1.trans e2).trans (Ex.new hp)) ⟨xs ++ ys, upd_same, ?_⟩⟩
  · rw [Paired.length r1, Paired.length r2]; exact Nat.le_trans hl (by decide)
  · have app : ∀ {l1 : List V} {m1 : List SV} {l2 : List V} {m2 : List SV}, Paired (SvOk c.K (Nof c ad os) ad os.length H2) l1 m1 → Paired (SvOk c.K (Nof c ad os) ad os.length H2) l2 m2 → Paired (SvOk c.K (Nof c ad os) ad os.length H2) (l1 ++ l2) (m1 ++ m2) := by
      intro l1 m1 l2 m2 p q
      induction p with
      | nil => exact q
      | cons r t ih => exact .cons r ih
    exact Paired.imp (app (Paired.imp r1 fun _ _ z => (z.sub fun a y => Or.inl y).ext e2) (Paired.imp r2 fun _ _ z => z.sub fun a y => Or.inl y)) fun v s z => by
      cases s with
      | i d => exact (Dn.add hp z).ext (Ex.new hp)
      | r k => exact z
end

/-! ### promises -/
/-- data in, data out; nothing that stands is changed -/
def spD (K : PySem.W.Frag) (R : List PyData → PyData → Prop) : Sp := fun vs H Q _ => ∃ (N : Addr → Prop) (ds : List PyData) (d : PyData), (∀ a, N a → H a ≠ none) ∧ DnAll K N H vs ds ∧ R ds d ∧ ∀ v H', Ex H H' → Dn K N H' v d → Q v H'
/-- data in, a new list of data out -/
def spF (K : PySem.W.Frag) (R : List PyData → List PyData → Prop) : Sp := fun vs H Q _ => ∃ (N : Addr → Prop) (ds : List PyData) (rs : List PyData), (∀ a, N a → H a ≠ none) ∧ DnAll K N H vs ds ∧ R ds rs ∧
  ∀ p H' ws, H p = none → Ex H H' → H' p = some (.lst ws) → DnAll K (fun a => N a ∨ a = p) H' ws rs → Q (.ref p) H'
section
variable {w : Bool} {c : Cn} {env : Sy} {os : List SO} {te : TE} {ta : TA} {d : PyData}
theorem ex_call {R : List PyData → PyData → Prop} {E : XK} {ds : List PyData} (h : EvA w c env os ta ds) (hR : R ds d) : EvX w c env os (tCall (spD c.K R) [] E ta) d := fun ad σ H ok Q q =>
  h ad σ H ok _ fun vs H2 e a => by
    rw [List.append_nil]
    exact ⟨Nw w c ad os, ds, d, fun b z => (ok.ext e).nof (Nw_le b z), a, hR, fun v H' e' r => q v H' (e.trans e') r⟩
theorem ef_call {R : List PyData → List PyData → Prop} {E : XK} {ds rs : List PyData} (h : EvA false c env os ta ds) (hR : R ds rs) : EvF c env os (tCall (spF c.K R) [] E ta) (.lst (rs.map SV.i)) := fun ad σ H ok Q q =>
  h ad σ H ok _ fun vs H2 e a => by
    rw [List.append_nil]
    rw [Nw_false] at a
    exact ⟨Nof c ad os, ds, rs, fun b z => (ok.ext e).nof z, a, hR, fun p H' ws hp e' h1 h2 => q p H' (e.free hp) (e.trans e') ⟨ws, h1, dn_paired h2⟩⟩
/-- .. where an argument is a list of the store: told where the answer has no list in its items -/
theorem ef_callW {R : List PyData → List PyData → Prop} {E : XK} {ds rs : List PyData} (h : EvA true c env os ta ds) (hR : R ds rs) (hn : noLists rs = true) : EvF c env os (tCall (spF c.K R) [] E ta) (.lst (rs.map SV.i)) := fun ad σ H ok Q q =>
  h ad σ H ok _ fun vs H2 e a => by
    rw [List.append_nil]
    exact ⟨Nw true c ad os, ds, rs, fun b z => (ok.ext e).nof (Nw_le b z), a, hR, fun p H' ws hp e' h1 h2 => q p H' (e.free hp) (e.trans e') ⟨ws, h1, dn_paired (DnAll.goF (fun _ _ r => r) rs ws hn h2)⟩⟩
end

/-! ### statements -/
def Go (c : Cn) (env : Sy) (os : List SO) (t : TS) (D : Ends) : Prop := ∀ ad σ H, Ok c ad env os σ H → t D σ H
def Ret (c : Cn) (d : PyData) (D : Ends) : Prop := ∀ v H2, (∀ a o, c.H0 a = some o → ¬ c.M a → H2 a = some o) → Dn c.K c.N0 H2 v d → D.rt v H2
def RetF (c : Cn) (ds : List PyData) (D : Ends) : Prop := ∀ p H2 ws, c.H0 p = none → (∀ a o, c.H0 a = some o → ¬ c.M a → H2 a = some o) → H2 p = some (.lst ws) → DnAll c.K (fun a => c.N0 a ∨ a = p) H2 ws ds → D.rt (.ref p) H2
/-- such a state -/
def OkE (c : Cn) (env : Sy) (os : List SO) : St → Hp → Prop := fun σ H => ∃ ad, Ok c ad env os σ H
/-- a target takes a value -/
def Tg (c : Cn) (env : Sy) (os : List SO) (g : TG) (s : SV) (env' : Sy) (js : List Nat) : Prop := ∀ ad σ H v, Ok c ad env os σ H → SvOk c.K (Nof c ad os) ad os.length H v s → ∀ Q : St → Hp → Prop,
  (∀ σ', Ok c ad env' os σ' H → (∀ vs : List Nat, (∀ j ∈ js, j ∈ vs) → wipe σ' vs = wipe σ vs) → Q σ' H) → g v σ H Q
def Tgs (c : Cn) (env : Sy) (os : List SO) (g : TGs) (ds : List PyData) (env' : Sy) (js : List Nat) : Prop := ∀ ad σ H vs, Ok c ad env os σ H → DnAll c.K (Nof c ad os) H vs ds → ∀ Q : St → Hp → Prop,
  (∀ σ', Ok c ad env' os σ' H → (∀ vs : List Nat, (∀ j ∈ js, j ∈ vs) → wipe σ' vs = wipe σ vs) → Q σ' H) → g vs σ H Q
theorem wipe_set {σ : St} {j : Nat} {x : Option V} : ∀ {vs : List Nat}, j ∈ vs → wipe (σ.set j x) vs = wipe σ vs
  | v :: vs, h => by
    show (wipe (σ.set j x) vs).set v none = (wipe σ vs).set v none
    by_cases hj : j ∈ vs
    · rw [wipe_set hj]
    · have e : j = v := by
        rcases List.mem_cons.mp h with z | z
        · exact z
        · exact absurd z hj
      subst e
      have key : ∀ us : List Nat, j ∉ us → wipe (σ.set j x) us = (wipe σ us).set j x := by
        intro us
        induction us with
        | nil => intro _; rfl
        | cons u us ih =>
          intro hu
          have h1 : j ≠ u := fun z => hu (z ▸ List.mem_cons_self ..)
          have h2 : j ∉ us := fun z => hu (List.mem_cons_of_mem _ z)
          show (wipe (σ.set j x) us).set u none = ((wipe σ us).set u none).set j x
          rw [ih h2, List.set_comm _ _ h1]
      rw [key vs hj, List.set_set]
section
variable {w : Bool} {c : Cn} {env env' env'' : Sy} {os : List SO} {te ta tl : TE} {d : PyData} {g : TG} {u t v : TS} {D : Ends} {tt : TT}
theorem tg_name {j : Nat} {s : SV} : Tg c env os (gName j) s (env.set j (some s)) [j] := fun ad σ H v ok h Q q => q _ (ok.set h) fun vs hv => wipe_set (hv j (List.mem_cons_self ..))
theorem tgs_nil : Tgs c env os gNil [] env [] := fun ad σ H vs ok h Q q => by
  cases h
  exact ⟨rfl, q σ ok fun _ _ => rfl⟩
theorem tgs_cons {gs : TGs} {ds : List PyData} {js ks : List Nat} (h1 : Tg c env os g (.i d) env' js) (h2 : Tgs c env' os gs ds env'' ks) : Tgs c env os (gCons g gs) (d :: ds) env'' (js ++ ks) := fun ad σ H vs ok h Q q => by
  cases h with
  | cons a b =>
    refine ⟨_, _, rfl, h1 ad σ H _ ok a _ fun σ' ok' hw => h2 ad σ' H _ ok' b _ fun σ'' ok'' hw' => q σ'' ok'' fun vs hv => ?_⟩
    rw [hw' vs fun j hj => hv j (List.mem_append_right _ hj), hw vs fun j hj => hv j (List.mem_append_left _ hj)]
theorem tg_tup {gs : TGs} {ds : List PyData} {n : Nat} {js : List Nat} (h : Tgs c env os gs ds env' js) (hn : ds.length = n) : Tg c env os (gTup c.K n gs) (.i (.tuple ds)) env' js := fun ad σ H v ok r Q q => by
  cases (show Dn _ _ _ _ _ from r) with
  | tup r' a => exact ⟨_, _, rfl, r', a.length.trans hn, h ad σ H _ ok a Q q⟩
theorem gs_asg {i : Nat} (h : EvX false c env os te d) (k : Go c (env.set i (some (.i d))) os u D) : Go c env os (tSeq (tAsg te (gName i)) u) D := fun ad σ H ok =>
  h ad σ H ok _ fun v H2 e r => k ad _ H2 ((ok.ext e).set (by rw [Nw_false] at r; exact r))
theorem gs_asgF {i : Nat} {o : SO} (h : EvF c env os te o) (k : Go c (env.set i (some (.r os.length))) (os ++ [o]) u D) : Go c env os (tSeq (tAsg te (gName i)) u) D := fun ad σ H ok =>
  h ad σ H ok _ fun p H2 hp e r => by
    have h0 : c.H0 p = none ∨ c.M p := by
      by_cases hm : c.M p
      · exact Or.inr hm
      · refine Or.inl ?_
        cases hz : c.H0 p with
        | none => rfl
        | some o => rw [ok.ex p o hz hm] at hp; cases hp
    have ok2 := ok.new hp e h0 r
    refine k _ _ H2 (ok2.set (v := .ref p) (s := .r os.length) ⟨congrArg V.ref adN_same.symm, by simp⟩)
theorem gs_asgR {i k : Nat} (h : EvR c env os te k) (kk : Go c (env.set i (some (.r k))) os u D) : Go c env os (tSeq (tAsg te (gName i)) u) D := fun ad σ H ok =>
  h.2 ad σ H ok _ fun H2 e => kk ad _ H2 ((ok.ext e).set ⟨rfl, h.1⟩)
theorem gs_asgT {js : List Nat} (h : EvX false c env os te d) (ht : Tg c env os g (.i d) env' js) (k : Go c env' os u D) : Go c env os (tSeq (tAsg te g) u) D := fun ad σ H ok =>
  h ad σ H ok _ fun v H2 e r => ht ad σ H2 v (ok.ext e) (by rw [Nw_false] at r; exact r) _ fun σ' ok' _ => k ad σ' H2 ok'
theorem gs_if {b : Bool} (h : EvT c env os tt b) (h1 : b = true → Go c env os t { D with nx := u D }) (h2 : b = false → Go c env os v { D with nx := u D }) : Go c env os (tSeq (tIfS tt t v) u) D := fun ad σ H ok =>
  h ad σ H ok _ fun H2 e => by
    cases b with
    | true => exact h1 rfl ad σ H2 (ok.ext e)
    | false => exact h2 rfl ad σ H2 (ok.ext e)
theorem g_next (h : ∀ ad σ H, Ok c ad env os σ H → D.nx σ H) : Go c env os tNext D := h
theorem g_nextU (h : Go c env os u D) : Go c env os tNext { D with nx := u D } := h
/-- a join behind an if -/
theorem gs_cut {os' : List SO} (h1 : Go c env os t { D with nx := OkE c env' os' }) (h2 : Go c env' os' u D) : Go c env os (Evl.tCut t u) D := fun ad σ H ok =>
  ⟨OkE c env' os', h1 ad σ H ok, fun σ' H' ⟨ad', ok'⟩ => h2 ad' σ' H' ok'⟩
theorem gs_ret (h : EvX true c env os te d) (k : Ret c d D) : Go c env os (tSeq (tRet te) u) D := fun ad σ H ok =>
  h ad σ H ok _ fun v H2 e r => k v H2 (ok.ext e).ex (r.sub fun a z => Or.inl z)
theorem gs_retF {ds : List PyData} (h : EvF c env os te (.lst (ds.map SV.i))) (hM : ∀ a, ¬ c.M a) (k : RetF c ds D) : Go c env os (tSeq (tRet te) u) D := fun ad σ H ok =>
  h ad σ H ok _ fun p H2 hp e r => by
    obtain ⟨vs, h1, h2⟩ := r
    refine k p H2 vs ?_ (ok.ext e).ex h1 ((paired_dn h2).sub fun a z => z.elim (fun y => Or.inl (Or.inl y)) Or.inr)
    cases hz : c.H0 p with
    | none => rfl
    | some o => rw [ok.ex p o hz (hM p)] at hp; cases hp
theorem gs_retO {k : Nat} {ds : List PyData} (h : EvR c env os te k) (hk : os[k]? = some (.lst (ds.map SV.i))) (hM : ∀ a, ¬ c.M a) (q : RetF c ds D) : Go c env os (tSeq (tRet te) u) D := fun ad σ H ok =>
  h.2 ad σ H ok _ fun H2 e => by
    have ok2 := ok.ext e
    obtain ⟨h0, vs, h1, h2⟩ := ok2.obj k _ hk rfl
    refine q (ad k) H2 vs (h0.resolve_right (hM _)) ok2.ex h1 ((paired_dn h2).sub fun a z => ?_)
    rcases z with z | z
    · exact Or.inl z
    · exact Or.inr ⟨k, ⟨_, hk, rfl⟩, z⟩
theorem gs_drop (h : EvX w c env os te d) (k : Go c env os u D) : Go c env os (tSeq (tDrop te) u) D := fun ad σ H ok => h ad σ H ok _ fun v H2 e r => k ad σ H2 (ok.ext e)
theorem paired_snoc {α β : Type} {F : α → β → Prop} {a : α} {b : β} : ∀ {l₁ : List α} {l₂ : List β}, Paired F l₁ l₂ → F a b → Paired F (l₁ ++ [a]) (l₂ ++ [b])
  | _, _, .nil, h => .cons h .nil
  | _, _, .cons r t, h => .cons r (paired_snoc t h)
/-- xs.append(e) -/
theorem gs_app {k : Nat} {ss : List SV} {s : SV} (hl : EvR c env os tl k) (hk : os[k]? = some (.lst ss)) (h : EvS c env os te s) (hz : ss.length < 100000) (kk : Go c env (os.set k (.lst (ss ++ [s]))) u D) : Go c env os (tSeq (tDrop (tBM c.K "list" rAppend tl (tCons te tNil))) u) D := fun ad σ H ok =>
  hl.2 ad σ H ok _ fun H1 e1 => by
    have ok1 := ok.ext e1
    obtain ⟨_, vs, hvs, pv⟩ := ok1.obj k _ hk rfl
    refine ⟨Or.inl ⟨rfl, vs, SqL.of hvs⟩, ?_⟩
    have fin : ∀ v H2, Ex H1 H2 → SvOk c.K (Nof c ad os) ad os.length H2 v s → tNil σ H2 fun xs H3 => rAppend (.ref (ad k)) (v :: xs) H3 fun _ H4 => u D σ H4 := fun v H2 e2 r => by
      have ok2 := ok1.ext e2
      have hv2 := e2 _ _ hvs
      refine ⟨ad k, vs, v, rfl, rfl, hv2, Nat.lt_of_lt_of_le (by rw [Paired.length pv]; exact hz) (by decide), ?_⟩
      refine kk ad σ _ (ok2.mut hk rfl rfl ⟨vs ++ [v], upd_same, ?_⟩)
      have hN : Nof c ad os (ad k) := Or.inr ⟨k, ⟨_, hk, rfl⟩, rfl⟩
      exact paired_snoc (Paired.imp pv fun _ _ z => (z.ext e2).mut hv2 rfl hN) (r.mut hv2 rfl hN)
    cases s with
    | i d => exact (show EvX false c env os te d from h) ad σ H1 ok1 _ fun v H2 e2 r => fin v H2 e2 (by rw [Nw_false] at r; exact r)
    | r j => exact (show EvR c env os te j from h).2 ad σ H1 ok1 _ fun H2 e2 => fin _ H2 e2 ⟨rfl, (show EvR c env os te j from h).1⟩
/-- x += e, ints -/
theorem gs_aug {i : Nat} {f : Int → Int → Int} {a b : Int} (hx : env[i]? = some (some (.i (.int a)))) (h : EvX true c env os te (.int b)) (k : Go c (env.set i (some (.i (.int (f a b))))) os u D) : Go c env os (tSeq (tAug i te (ipI f)) u) D := fun ad σ H ok => by
  obtain ⟨v, h1, h2⟩ := ok.val i _ hx
  cases dn_int (show Dn _ _ _ _ _ from h2)
  exact ⟨.int a, h1, h ad σ H ok _ fun v H2 e r => ⟨a, b, rfl, dn_int r, k ad _ H2 ((ok.ext e).set (show Dn _ _ _ _ _ from .int _))⟩⟩
/-- less is known -/
theorem gs_weak {os' : List SO} (he : WkE env env') (ho : WkO os os') (l1 : EnLt os'.length env') (l2 : OsLt os'.length os') (l3 : c.lo ≤ os'.length) (k : Go c env' os' u D) : Go c env os u D := fun ad σ H ok => k ad σ H (ok.weak he ho l1 l2 l3)
theorem gs_own {i k : Nat} {ds : List PyData} (hi : env[i]? = some (some (.r k))) (hk : os[k]? = some (.lst (ds.map SV.i))) (kk : Go c (env.set i (some (.i (.list ds)))) (os.set k .x) u D) : Go c env os u D := fun ad σ H ok => kk ad σ H (ok.own hi hk)
/-- the state as it is told elsewhere -/
theorem gs_is {os' : List SO} (h1 : env = env') (h2 : os = os') (k : Go c env' os' u D) : Go c env os u D := by subst h1 h2; exact k
end

/-! ### what is walked -/
structure WalkD (c : Cn) (J : It) (n : Nat) (it : Nat → SV) (G : List SO → Prop) : Prop where
  goes : ∀ i ad env os σ H, i < n → Ok c ad env os σ H → G os → J.go i H
  stops : ∀ ad env os σ H, Ok c ad env os σ H → G os → J.stop n H
  yields : ∀ i ad env os σ H x H', i < n → Ok c ad env os σ H → G os → J.yld i H x H' → Ex H H' ∧ SvOk c.K (Nof c ad os) ad os.length H' x (it i)
/-- wi walks the n things it -/
def EvW (c : Cn) (env : Sy) (os : List SO) (wi : TI) (n : Nat) (it : Nat → SV) (G : List SO → Prop) : Prop := ∀ ad σ H, Ok c ad env os σ H → ∀ R : It → Hp → Prop,
  (∀ J H1 fr, Ex H H1 → Ok (c.w fr os.length) ad env os σ H1 → (∀ ad' env' os' σ' H', Ok (c.w fr os.length) ad' env' os' σ' H' → Ok c ad' env' os' σ' H') → WalkD (c.w fr os.length) J n it G → R J H1) → wi σ H R
/-- what is known outside is known inside -/
def Up (c c' : Cn) : Prop := ∀ ad env os σ H, Ok c' ad env os σ H → Ok c ad env os σ H
section
variable {c : Cn} {env : Sy} {os : List SO} {te tl : TE} {ad : Nat → Addr} {σ : St} {H : Hp}
theorem up_pin (ok : Ok c ad env os σ H) {v : V} {s : SV} : Up c (c.w ((v, s) :: c.fr) os.length) := fun ad' env' os' σ' H' o => ⟨o.len, o.ex, o.n0, o.val, o.obj, o.inj, o.nn, fun p hp => by
  have h1 := o.frm p (List.mem_cons_of_mem _ hp)
  have h2 := ok.frm p hp
  obtain ⟨x, y⟩ := p
  cases y with
  | i d => exact h1
  | r k => exact ⟨h1.1, h2.2⟩, Nat.le_trans ok.low o.low⟩
theorem up_pin0 (ok : Ok c ad env os σ H) : Up c (c.w c.fr os.length) := fun ad' env' os' σ' H' o => ⟨o.len, o.ex, o.n0, o.val, o.obj, o.inj, o.nn, fun p hp => by
  have h1 := o.frm p hp
  have h2 := ok.frm p hp
  obtain ⟨x, y⟩ := p
  cases y with
  | i d => exact h1
  | r k => exact ⟨h1.1, h2.2⟩, Nat.le_trans ok.low o.low⟩
theorem sql_of_dn {K : PySem.W.Frag} {N : Addr → Prop} {H : Hp} {a : Addr} {ds : List PyData} (h : Dn K N H (.ref a) (.list ds)) : ∃ xs, SqL K H a xs ∧ DnAll K N H xs ds := by
  cases h with
  | lst r n a => exact ⟨_, Or.inl r, a⟩
  | lstK r a => exact ⟨_, Or.inr r, a⟩
theorem dn_list_ref {K : PySem.W.Frag} {N : Addr → Prop} {H : Hp} {v : V} {ds : List PyData} (h : Dn K N H v (.list ds)) : ∃ a, v = .ref a := by cases h <;> exact ⟨_, rfl⟩
theorem dn_tup_ref {K : PySem.W.Frag} {N : Addr → Prop} {H : Hp} {v : V} {ds : List PyData} (h : Dn K N H v (.tuple ds)) : ∃ a xs, v = .ref a ∧ SqT K H a xs ∧ DnAll K N H xs ds := by
  cases h with
  | tup r a => exact ⟨_, _, rfl, r, a⟩
def itD (ds : List PyData) : Nat → SV := fun i => .i (ds.getD i .none)
theorem itD_at {ds : List PyData} {i : Nat} {d : PyData} (h : ds[i]? = some d) : itD ds i = .i d := by
  unfold itD
  rw [List.getD_eq_getElem?_getD, h]
  rfl
/-- a list of data -/
theorem ew_list {ds : List PyData} (h : EvX false c env os tl (.list ds)) : EvW c env os (iList c.K tl) ds.length (itD ds) (fun _ => True) := fun ad σ H ok R q =>
  h ad σ H ok _ fun v H1 e r => by
    rw [Nw_false] at r
    obtain ⟨a, rfl⟩ := dn_list_ref r
    obtain ⟨xs, hs, _⟩ := sql_of_dn r
    refine ⟨a, rfl, ⟨xs, hs⟩, q _ H1 ((.ref a, .i (.list ds)) :: c.fr) e ((ok.ext e).pin r) (up_pin (ok.ext e)) ⟨fun i ad' env' os' σ' H' hi o _ => ?_, fun ad' env' os' σ' H' o _ => ?_, fun i ad' env' os' σ' H' x H'' hi o _ y => ?_⟩⟩
    all_goals
      have r' : Dn c.K (Nof c ad' os') H' (.ref a) (.list ds) := o.frm _ (List.mem_cons_self ..)
      obtain ⟨ys, hy, ay⟩ := sql_of_dn r'
    · exact ⟨ys, ys[i]'(by rw [ay.length]; exact hi), hy, List.getElem?_eq_getElem _⟩
    · exact ⟨ys, hy, by rw [ay.length]; exact Nat.le_refl _⟩
    · obtain ⟨rfl, y⟩ := y
      refine ⟨Ex.refl _, ?_⟩
      obtain ⟨d, h1, h2⟩ := ay.getV (y ys hy)
      rw [itD_at h1]
      exact h2
/-- a list of the store -/
theorem ew_own {k : Nat} {ss : List SV} (h : EvR c env os tl k) (hk : os[k]? = some (.lst ss)) : EvW c env os (iList c.K tl) ss.length (fun i => ss.getD i (.i .none)) (fun os' => os'[k]? = some (.lst ss)) := fun ad σ H ok R q =>
  h.2 ad σ H ok _ fun H1 e => by
    have ok1 := ok.ext e
    obtain ⟨_, vs, h1, _⟩ := ok1.obj k _ hk rfl
    refine ⟨ad k, rfl, ⟨vs, SqL.of h1⟩, q _ H1 ((.ref (ad k), .r k) :: c.fr) e (ok1.pin ⟨rfl, h.1⟩) (up_pin ok1) ⟨fun i ad' env' os' σ' H' hi o g => ?_, fun ad' env' os' σ' H' o g => ?_, fun i ad' env' os' σ' H' x H'' hi o g y => ?_⟩⟩
    all_goals
      have r' := o.frm (.ref (ad k), .r k) (List.mem_cons_self ..)
      have r2 : ad k = ad' k := V.ref.inj r'.1
      obtain ⟨_, ys, hy, ay⟩ := o.obj k _ g rfl
      rw [← r2] at hy
    · exact ⟨ys, ys[i]'(by rw [Paired.length ay]; exact hi), SqL.of hy, List.getElem?_eq_getElem _⟩
    · exact ⟨ys, SqL.of hy, by rw [Paired.length ay]; exact Nat.le_refl _⟩
    · obtain ⟨rfl, y⟩ := y
      refine ⟨Ex.refl _, ?_⟩
      obtain ⟨d, h1, h2⟩ := paired_getL ay (y ys (SqL.of hy))
      rw [List.getD_eq_getElem?_getD, h1]
      exact h2
/-- a tuple -/
theorem ew_tup {ds : List PyData} (h : EvX false c env os tl (.tuple ds)) : EvW c env os (iTup c.K tl) ds.length (itD ds) (fun _ => True) := fun ad σ H ok R q =>
  h ad σ H ok _ fun v H1 e r => by
    rw [Nw_false] at r
    obtain ⟨a, xs, rfl, hs, _⟩ := dn_tup_ref r
    refine ⟨a, rfl, ⟨xs, hs⟩, q _ H1 ((.ref a, .i (.tuple ds)) :: c.fr) e ((ok.ext e).pin r) (up_pin (ok.ext e)) ⟨fun i ad' env' os' σ' H' hi o _ => ?_, fun ad' env' os' σ' H' o _ => ?_, fun i ad' env' os' σ' H' x H'' hi o _ y => ?_⟩⟩
    all_goals
      have r' : Dn c.K (Nof c ad' os') H' (.ref a) (.tuple ds) := o.frm _ (List.mem_cons_self ..)
      obtain ⟨a', ys, ea, hy, ay⟩ := dn_tup_ref r'
      cases ea
    · exact ⟨ys, ys[i]'(by rw [ay.length]; exact hi), hy, List.getElem?_eq_getElem _⟩
    · exact ⟨ys, hy, by rw [ay.length]; exact Nat.le_refl _⟩
    · obtain ⟨rfl, y⟩ := y
      refine ⟨Ex.refl _, ?_⟩
      obtain ⟨d, h1, h2⟩ := ay.getV (y ys hy)
      rw [itD_at h1]
      exact h2
theorem ew_range1 {ta : TA} {n : Int} (h : EvA true c env os ta [.int n]) (hn : -1000000000000 ≤ n ∧ n ≤ 1000000000000) : EvW c env os (iRng1 ta) n.toNat (fun i => .i (.int (i : Int))) (fun _ => True) := fun ad σ H ok R q =>
  h ad σ H ok _ fun vs H1 e r => by
    cases r with
    | cons a b =>
      cases b
      cases dn_int a
      refine ⟨n, rfl, by omega, by omega, q _ H1 c.fr e (ok.ext e).pin0 (up_pin0 (ok.ext e)) ⟨fun i ad' env' os' σ' H' hi o _ => hi, fun ad' env' os' σ' H' o _ => Nat.le_refl _, fun i ad' env' os' σ' H' x H'' hi o _ y => ?_⟩⟩
      obtain ⟨rfl, rfl⟩ := y
      refine ⟨Ex.refl _, ?_⟩
      rw [Int.zero_add]
      exact Dn.int _
theorem ew_range2 {ta : TA} {lo hi : Int} (h : EvA true c env os ta [.int lo, .int hi]) (h1 : -1000000000000000000 ≤ lo ∧ lo ≤ 1000000000000000000) (h2 : -1000000000000000000 ≤ hi ∧ hi ≤ 1000000000000000000) : EvW c env os (iRng2 ta) (hi - lo).toNat (fun i => .i (.int (lo + (i : Int)))) (fun _ => True) := fun ad σ H ok R q =>
  h ad σ H ok _ fun vs H1 e r => by
    cases r with
    | cons a b =>
      cases b with
      | cons a' b' =>
        cases b'
        cases dn_int a
        cases dn_int a'
        refine ⟨lo, hi, rfl, ⟨by omega, by omega, by omega, by omega⟩, q _ H1 c.fr e (ok.ext e).pin0 (up_pin0 (ok.ext e)) ⟨fun i ad' env' os' σ' H' hi o _ => hi, fun ad' env' os' σ' H' o _ => Nat.le_refl _, fun i ad' env' os' σ' H' x H'' hi o _ y => ?_⟩⟩
        obtain ⟨rfl, rfl⟩ := y
        exact ⟨Ex.refl _, Dn.int _⟩
end

/-! ### loops -/
section
variable {c : Cn} {env : Sy} {os : List SO} {g : TG} {tb u : TS} {D : Ends}
/-- a for: E, O the slots and the store by the number of turns done -/
theorem gs_for {wi : TI} {n : Nat} {it : Nat → SV} {G : List SO → Prop} (E : Nat → Sy) (O : Nat → List SO) (hw : EvW c env os wi n it G)
    (h0 : ∀ c' : Cn, c'.lo = os.length → ∀ ad σ H, Ok c' ad env os σ H → Ok c' ad (E 0) (O 0) σ H) (hG : ∀ i, i ≤ n → G (O i))
    (hs : ∀ fr, Up c (c.w fr os.length) → ∀ i, i < n → ∃ env' js, Tg (c.w fr os.length) (E i) (O i) g (it i) env' js ∧ Go (c.w fr os.length) env' (O i) tb { D with nx := OkE (c.w fr os.length) (E (i + 1)) (O (i + 1)), ct := OkE (c.w fr os.length) (E (i + 1)) (O (i + 1)), bk := u D })
    (hd : Go c (E n) (O n) u D) : Go c env os (tSeq (tFor wi g tb) u) D := fun ad σ H ok => by
  refine hw ad σ H ok _ fun J H1 fr e ok1 up W => ?_
  refine ⟨fun i m σ H => m = n - i ∧ i ≤ n ∧ OkE (c.w fr os.length) (E i) (O i) σ H, ⟨n, by simp, Nat.zero_le _, ad, h0 _ rfl ad σ H1 ok1⟩, ?_⟩
  rintro i m σ H ⟨rfl, hi, ad', ok'⟩
  by_cases hlt : i < n
  · refine .inr ⟨W.goes i _ _ _ _ _ hlt ok' (hG i hi), OkE (c.w fr os.length) (E (i + 1)) (O (i + 1)), fun σ' H' p' => ⟨n - (i + 1), by omega, rfl, hlt, p'⟩, fun x H' y => ?_⟩
    obtain ⟨e2, r⟩ := W.yields i _ _ _ _ _ x H' hlt ok' (hG i hi) y
    obtain ⟨env', js, ht, hb⟩ := hs fr up i hlt
    exact ht ad' σ H' x (ok'.ext e2) r _ fun σ2 ok2 _ => hb ad' σ2 H' ok2
  · have q : i = n := by omega
    subst q
    exact .inl ⟨W.stops _ _ _ _ _ ok' (hG i hi), hd ad' σ H (up _ _ _ _ _ ok')⟩
/-- .. over the list of the e x, x in xs; E, O by the part that is done -/
theorem gs_forL {α : Type} {wi : TI} {xs : List α} {e : α → SV} {n : Nat} {it : Nat → SV} {G : List SO → Prop} (E : List α → Sy) (O : List α → List SO) (hw : EvW c env os wi n it G) (hn : n = xs.length) (hit : ∀ i x, xs[i]? = some x → it i = e x)
    (h0 : ∀ c' : Cn, c'.lo = os.length → ∀ ad σ H, Ok c' ad env os σ H → Ok c' ad (E []) (O []) σ H) (hG : ∀ pre post, xs = pre ++ post → G (O pre))
    (hs : ∀ fr, Up c (c.w fr os.length) → ∀ pre x post, xs = pre ++ x :: post → ∃ env' js, Tg (c.w fr os.length) (E pre) (O pre) g (e x) env' js ∧ Go (c.w fr os.length) env' (O pre) tb { D with nx := OkE (c.w fr os.length) (E (pre ++ [x])) (O (pre ++ [x])), ct := OkE (c.w fr os.length) (E (pre ++ [x])) (O (pre ++ [x])), bk := u D })
    (hd : Go c (E xs) (O xs) u D) : Go c env os (tSeq (tFor wi g tb) u) D := by
  subst hn
  refine gs_for (fun i => E (xs.take i)) (fun i => O (xs.take i)) hw (fun c' hc => by simpa using h0 c' hc) (fun i hi => hG _ (xs.drop i) (List.take_append_drop i xs).symm) (fun fr up i hi => ?_) (by simpa using hd)
  have e1 : xs = xs.take i ++ xs[i] :: xs.drop (i + 1) := by
    rw [List.getElem_cons_drop]; exact (List.take_append_drop i xs).symm
  obtain ⟨env', js, h1, h2⟩ := hs fr up (xs.take i) xs[i] (xs.drop (i + 1)) e1
  rw [hit i xs[i] (List.getElem?_eq_getElem hi)]
  refine ⟨env', js, h1, ?_⟩
  have e2 : xs.take (i + 1) = xs.take i ++ [xs[i]] := by rw [List.take_succ, List.getElem?_eq_getElem hi]; rfl
  simp only [e2]
  exact h2
/-- break: what is behind the loop -/
theorem gs_break {c' : Cn} {v : TS} (up : Up c c') (h : Go c env os u D) {D' : Ends} (hD : D'.bk = u D) : Go c' env os (tSeq tBreak v) D' := fun ad σ H ok => by
  show D'.bk σ H
  rw [hD]
  exact h ad σ H (up _ _ _ _ _ ok)
theorem gs_cont {v : TS} (h : ∀ ad σ H, Ok c ad env os σ H → D.ct σ H) : Go c env os (tSeq tCont v) D := h
/-- while -/
theorem gs_while {S : Type} {tc : TT} (E : S → Sy) (O : S → List SO) (P : S → Prop) (b : S → Bool) (μ : S → Nat) (s0 : S) (h0 : ∀ c' : Cn, c'.lo = os.length → ∀ ad σ H, Ok c' ad env os σ H → Ok c' ad (E s0) (O s0) σ H) (p0 : P s0)
    (ht : ∀ fr, Up c (c.w fr os.length) → ∀ s, P s → EvT (c.w fr os.length) (E s) (O s) tc (b s))
    (hs : ∀ fr, Up c (c.w fr os.length) → ∀ s, P s → b s = true → Go (c.w fr os.length) (E s) (O s) tb { D with nx := fun σ H => ∃ s', P s' ∧ μ s' < μ s ∧ OkE (c.w fr os.length) (E s') (O s') σ H, ct := fun σ H => ∃ s', P s' ∧ μ s' < μ s ∧ OkE (c.w fr os.length) (E s') (O s') σ H, bk := u D })
    (hd : ∀ s, P s → b s = false → Go c (E s) (O s) u D) : Go c env os (tSeq (tWhile tc tb) u) D := fun ad σ H ok => by
  have up := up_pin0 ok
  refine ⟨fun m σ H => ∃ s, P s ∧ m = μ s ∧ OkE (c.w c.fr os.length) (E s) (O s) σ H, ⟨_, s0, p0, rfl, ad, h0 _ rfl ad σ H ok.pin0⟩, ?_⟩
  rintro m σ H ⟨s, ps, rfl, ad', ok'⟩
  refine ht _ up s ps ad' σ H ok' _ fun H2 e2 => ?_
  cases hb : b s with
  | true =>
    rw [if_pos rfl]
    refine ⟨fun σ H => ∃ s', P s' ∧ μ s' < μ s ∧ OkE (c.w c.fr os.length) (E s') (O s') σ H, ?_, hs _ up s ps hb ad' σ H2 (ok'.ext e2)⟩
    rintro σ' H' ⟨s', p', hm, ok2⟩
    exact ⟨μ s', hm, s', p', rfl, ok2⟩
  | false =>
    rw [if_neg (by decide)]
    exact hd s ps hb ad' σ H2 (up _ _ _ _ _ (ok'.ext e2))
end
end DL

set_option Elab.async false
set_option linter.all false
set_option maxRecDepth 100000
set_option maxHeartbeats 2000000
/-! The data layer: comprehensions, types, a def's start. -/
namespace DL
open PySem L2
open Evl (Ex Ex.refl Ex.trans Ex.new)

/-! ### comprehensions -/
def wipeE (env : Sy) : List Nat → Sy
  | [] => env
  | v :: vs => (wipeE env vs).set v none
theorem Ok.wipe {c : Cn} {ad : Nat → Addr} {env : Sy} {os : List SO} {σ : St} {H : Hp} (ok : Ok c ad env os σ H) : ∀ vs : List Nat, Ok c ad (wipeE env vs) os (wipe σ vs) H
  | [] => ok
  | _ :: vs => (Ok.wipe ok vs).setU
section
variable {c : Cn} {env : Sy} {os : List SO} {g : TG} {tt : TT} {te : TE}
theorem ef_lc {α : Type} {wi : TI} {n : Nat} {it : Nat → SV} {G : List SO → Prop} {xs : List α} {e : α → SV} {vs : List Nat} (p : α → Bool) (f : α → PyData) (hw : EvW c env os wi n it G) (hn : n = xs.length) (hit : ∀ i x, xs[i]? = some x → it i = e x)
    (hG : ∀ o, G (os ++ [o])) (hz : xs.length ≤ 40000)
    (hs : ∀ fr lo, Up c (c.w fr lo) → ∀ acc x, x ∈ xs → ∃ env' js, (∀ j ∈ js, j ∈ vs) ∧ Tg (c.w fr lo) (wipeE env vs) (os ++ [.lst acc]) g (e x) env' js ∧ EvT (c.w fr lo) env' (os ++ [.lst acc]) tt (p x) ∧ (p x = true → EvX false (c.w fr lo) env' (os ++ [.lst acc]) te (f x))) :
    EvF c env os (tLc wi g tt te vs) (.lst (((xs.filter p).map f).map SV.i)) := fun ad σ H ok Q q => by
  subst hn
  refine hw ad σ H ok _ fun J H1 fr e1 ok1 up W D hD => ?_
  have h0 : (c.w fr os.length).H0 D = none ∨ (c.w fr os.length).M D := by
    by_cases hm : c.M D
    · exact Or.inr hm
    · refine Or.inl ?_
      show c.H0 D = none
      cases hz : c.H0 D with
      | none => rfl
      | some o => rw [ok1.ex D o hz hm] at hD; cases hD
  have ok2 := ok1.new (o := .lst []) hD (Ex.new (o := .lst []) hD) h0 ⟨[], upd_same, .nil⟩
  have ok3 := ok2.pin (v := .ref D) (s := .r os.length) ⟨congrArg V.ref adN_same.symm, by simp⟩
  have ok4 := ok3.wipe vs
  have up2 := up_pin (v := .ref D) (s := .r os.length) ok2
  generalize hlo : (os ++ [SO.lst []]).length = lo at ok4 up2
  generalize hfr : ((V.ref D, SV.r os.length) :: fr) = fr' at ok4 up2
  have upc : Up c (c.w fr' lo) := fun a b d e f z => up _ _ _ _ _ (up2 _ _ _ _ _ z)
  let acc : Nat → List SV := fun i => (((xs.take i).filter p).map f).map SV.i
  have hacc : ∀ i, (acc i).length ≤ i := fun i => by
    show ((((xs.take i).filter p).map f).map SV.i).length ≤ i
    rw [List.length_map, List.length_map]
    have h1 := List.length_filter_le p (xs.take i)
    rw [List.length_take] at h1
    omega
  refine ⟨fun i m H => m = xs.length - i ∧ i ≤ xs.length ∧ Ok (c.w fr' lo) (adN ad os.length D) (wipeE env vs) (os ++ [.lst (acc i)]) (wipe σ vs) H ∧ Ex H1 H, ⟨xs.length, by simp, Nat.zero_le _, ok4, Ex.new hD⟩, ?_⟩
  rintro i m H' ⟨rfl, hi, ok', ex1⟩
  have hget : (os ++ [SO.lst (acc i)])[os.length]? = some (.lst (acc i)) := by simp
  by_cases hlt : i < xs.length
  · have e0 : xs[i]? = some xs[i] := List.getElem?_eq_getElem hlt
    have et : xs.take (i + 1) = xs.take i ++ [xs[i]] := by rw [List.take_succ, e0]; rfl
    refine .inr ⟨W.goes i _ _ _ _ _ hlt (up2 _ _ _ _ _ ok') (hG _), fun H'' => Ok (c.w fr' lo) (adN ad os.length D) (wipeE env vs) (os ++ [.lst (acc (i + 1))]) (wipe σ vs) H'' ∧ Ex H1 H'', fun H'' p' => ⟨xs.length - (i + 1), by omega, rfl, hlt, p'.1, p'.2⟩, fun x H'' y => ?_⟩
    obtain ⟨e2, r⟩ := W.yields i _ _ _ _ _ x H'' hlt (up2 _ _ _ _ _ ok') (hG _) y
    rw [hit i xs[i] e0] at r
    have ok5 := ok'.ext e2
    obtain ⟨env', js, hjs, ht, hb, he⟩ := hs fr' lo upc (acc i) xs[i] (List.getElem_mem hlt)
    refine ht _ _ H'' x ok5 r _ fun σ2 ok6 hwp => ⟨?_, hb _ σ2 H'' ok6 _ fun H3 e3 => ?_⟩
    · rw [hwp vs hjs]
      have idem : ∀ (us : List Nat) (τ : St), (∀ j ∈ us, τ[j]? = some none ∨ τ[j]? = none) → wipe τ us = τ := by
        intro us
        induction us with
        | nil => intro τ _; rfl
        | cons u us ih =>
          intro τ h
          show (wipe τ us).set u none = τ
          rw [ih τ fun j hj => h j (List.mem_cons_of_mem _ hj)]
          rcases h u (List.mem_cons_self ..) with z | z
          · obtain ⟨h1, h2⟩ := List.getElem?_eq_some_iff.mp z
            exact List.ext_getElem? fun k => by
              by_cases q : u = k
              · subst q; rw [List.getElem?_set_self h1, z]
              · rw [List.getElem?_set_ne q]
          · exact List.set_eq_of_length_le (List.getElem?_eq_none_iff.mp z)
      refine idem vs _ fun j hj => ?_
      cases hx : (wipe σ vs)[j]? with
      | none => exact Or.inr rfl
      | some o =>
        cases o with
        | none => exact Or.inl rfl
        | some v => exact absurd hj (wipe_some hx).2
    · cases hp : p xs[i] with
      | false =>
        rw [if_neg (by decide)]
        have ea : acc (i + 1) = acc i := by
          show (((xs.take (i + 1)).filter p).map f).map SV.i = _
          rw [et, List.filter_append, List.filter_cons, if_neg (by rw [hp]; decide), List.filter_nil, List.append_nil]
        rw [ea]
        exact ⟨ok5.ext e3, (ex1.trans e2).trans e3⟩
      | true =>
        rw [if_pos rfl]
        refine he hp _ σ2 H3 (ok6.ext e3) _ fun y H4 e4 ry => ?_
        have ok7 := (ok5.ext e3).ext e4
        obtain ⟨_, ws, hws, pws⟩ := ok7.obj os.length _ hget rfl
        rw [adN_same] at hws
        have ea : acc (i + 1) = acc i ++ [SV.i (f xs[i])] := by
          show (((xs.take (i + 1)).filter p).map f).map SV.i = _
          rw [et, List.filter_append, List.filter_cons, if_pos hp, List.filter_nil, List.map_append, List.map_append]
          rfl
        refine ⟨ws, hws, ?_, ?_⟩
        · rw [Paired.length pws]
          exact Nat.lt_of_le_of_lt (hacc i) (Nat.lt_of_lt_of_le (show i < 40000 by omega) (by decide))
        · have hN : Nof (c.w fr' lo) (adN ad os.length D) (os ++ [SO.lst (acc i)]) D := Or.inr ⟨os.length, ⟨_, hget, rfl⟩, adN_same.symm⟩
          rw [Nw_false] at ry
          have m := ok7.mut (o' := .lst (acc (i + 1))) (u' := .lst (ws ++ [y])) hget rfl rfl (by
            rw [adN_same]
            refine ⟨_, upd_same, ?_⟩
            rw [ea]
            exact paired_snoc (Paired.imp pws fun _ _ z => z.mut hws rfl hN) (show Dn _ _ _ _ _ from Dn.mut hws rfl hN ry))
          rw [adN_same] at m
          have es : (os ++ [SO.lst (acc i)]).set os.length (SO.lst (acc (i + 1))) = os ++ [SO.lst (acc (i + 1))] := by
            rw [List.set_append_right _ _ (Nat.le_refl _), Nat.sub_self]
            rfl
          rw [es] at m
          refine ⟨m, fun a o h => ?_⟩
          rw [upd_ne (ne_of_none h hD)]
          exact ((ex1.trans e2).trans e3).trans e4 a o h
  · have q : i = xs.length := by omega
    subst q
    have ea : acc xs.length = ((xs.filter p).map f).map SV.i := by
      show (((xs.take xs.length).filter p).map f).map SV.i = _
      rw [List.take_length]
    refine .inl ⟨W.stops _ _ _ _ _ (up2 _ _ _ _ _ ok') (hG _), ?_⟩
    obtain ⟨_, ws, hws, pws⟩ := ok'.obj os.length _ hget rfl
    rw [adN_same] at hws
    refine q D H' (e1.free hD) (e1.trans ex1) ⟨ws, hws, ?_⟩
    have hget2 := hget
    rw [ea] at pws hget2
    refine dn_paired ((paired_dn pws).sub fun a z => ?_)
    rcases z with z | z
    · rcases z with z | ⟨k, ⟨o, h1, h2⟩, z⟩
      · exact Or.inl z
      · have hk : k < os.length := (List.getElem?_eq_some_iff.mp h1).1
        exact Or.inr ⟨k, ⟨o, by rw [List.getElem?_append_left hk]; exact h1, h2⟩, by rw [adN_ne (by omega)]; exact z⟩
    · exact Or.inr ⟨os.length, ⟨_, hget2, rfl⟩, by rw [adN_same]; exact z⟩
end

/-! ### types -/
def tyN : PyData → String
  | .none => "NoneType"
  | .bool _ => "bool"
  | .int _ => "int"
  | .str _ => "str"
  | .list _ => "list"
  | .tuple _ => "tuple"
  | .dict _ => "dict"
theorem tyx_of {K : PySem.W.Frag} {N : Addr → Prop} {H : Hp} {v : V} {d : PyData} (h : Dn K N H v d) : TyX K H v (.type (tyN d)) := by
  cases h with
  | non => exact .base .non
  | bl b => exact .base (.bl b)
  | int i => exact .base (.int i)
  | str x => exact .base (.str x)
  | lst r n a =>
    rcases r with r | ⟨o, r⟩
    · exact .base (.lst r)
    · exact .base (.frz r)
  | lstK r a =>
    obtain ⟨o, its, n, h1, h2, _⟩ := r
    exact .kList h1 h2
  | tup r a =>
    rcases r with (r | ⟨o, r⟩) | ⟨o, its, n, h1, h2, _⟩
    · exact .base (.tup r)
    · exact .fTuple r
    · exact .kTuple h1 h2
theorem kit_int_int : kitB "int" "int" = some true := by decide +kernel
theorem kit_int_bool : kitB "int" "bool" = some false := by decide +kernel
theorem kit_int_str : kitB "int" "str" = some false := by decide +kernel
theorem kit_int_tuple : kitB "int" "tuple" = some false := by decide +kernel
theorem kit_int_list : kitB "int" "list" = some false := by decide +kernel
theorem kit_int_dict : kitB "int" "dict" = some false := by decide +kernel
theorem kit_bool_int : kitB "bool" "int" = some true := by decide +kernel
theorem kit_bool_bool : kitB "bool" "bool" = some true := by decide +kernel
theorem kit_bool_str : kitB "bool" "str" = some false := by decide +kernel
theorem kit_bool_tuple : kitB "bool" "tuple" = some false := by decide +kernel
theorem kit_bool_list : kitB "bool" "list" = some false := by decide +kernel
theorem kit_bool_dict : kitB "bool" "dict" = some false := by decide +kernel
theorem kit_str_int : kitB "str" "int" = some false := by decide +kernel
theorem kit_str_bool : kitB "str" "bool" = some false := by decide +kernel
theorem kit_str_str : kitB "str" "str" = some true := by decide +kernel
theorem kit_str_tuple : kitB "str" "tuple" = some false := by decide +kernel
theorem kit_str_list : kitB "str" "list" = some false := by decide +kernel
theorem kit_str_dict : kitB "str" "dict" = some false := by decide +kernel
theorem kit_tuple_int : kitB "tuple" "int" = some false := by decide +kernel
theorem kit_tuple_bool : kitB "tuple" "bool" = some false := by decide +kernel
theorem kit_tuple_str : kitB "tuple" "str" = some false := by decide +kernel
theorem kit_tuple_tuple : kitB "tuple" "tuple" = some true := by decide +kernel
theorem kit_tuple_list : kitB "tuple" "list" = some false := by decide +kernel
theorem kit_tuple_dict : kitB "tuple" "dict" = some false := by decide +kernel
theorem kit_list_int : kitB "list" "int" = some false := by decide +kernel
theorem kit_list_bool : kitB "list" "bool" = some false := by decide +kernel
theorem kit_list_str : kitB "list" "str" = some false := by decide +kernel
theorem kit_list_tuple : kitB "list" "tuple" = some false := by decide +kernel
theorem kit_list_list : kitB "list" "list" = some true := by decide +kernel
theorem kit_list_dict : kitB "list" "dict" = some false := by decide +kernel
theorem kit_NoneType_int : kitB "NoneType" "int" = some false := by decide +kernel
theorem kit_NoneType_bool : kitB "NoneType" "bool" = some false := by decide +kernel
theorem kit_NoneType_str : kitB "NoneType" "str" = some false := by decide +kernel
theorem kit_NoneType_tuple : kitB "NoneType" "tuple" = some false := by decide +kernel
theorem kit_NoneType_list : kitB "NoneType" "list" = some false := by decide +kernel
theorem kit_NoneType_dict : kitB "NoneType" "dict" = some false := by decide +kernel
theorem kit_dict_int : kitB "dict" "int" = some false := by decide +kernel
theorem kit_dict_bool : kitB "dict" "bool" = some false := by decide +kernel
theorem kit_dict_str : kitB "dict" "str" = some false := by decide +kernel
theorem kit_dict_tuple : kitB "dict" "tuple" = some false := by decide +kernel
theorem kit_dict_list : kitB "dict" "list" = some false := by decide +kernel
theorem kit_dict_dict : kitB "dict" "dict" = some true := by decide +kernel
section
variable {w : Bool} {c : Cn} {env : Sy} {os : List SO} {te tl : TE} {d : PyData}
theorem ex_isi {T : String} {b : Bool} (h : EvX true c env os te d) (hb : kitB (tyN d) T = some b) : EvX w c env os (tCB (rIsi c.K) (tCons te (tCons (tC (.ty T)) tNil))) (.bool b) := fun ad σ H ok Q q =>
  h ad σ H ok _ fun v H2 e r => ⟨v, .ty T, .type (tyN d), .type T, b, rfl, .ty T, tyx_of r, kit_ty hb, q _ H2 e (.bl b)⟩
def maxL : List Int → Int
  | [] => 0
  | x :: xs => xs.foldl max x
def minL : List Int → Int
  | [] => 0
  | x :: xs => xs.foldl min x
theorem foldl_max : ∀ (xs : List Int) (a : Int), a ≤ xs.foldl max a ∧ (∀ y ∈ xs, y ≤ xs.foldl max a) ∧ (xs.foldl max a = a ∨ xs.foldl max a ∈ xs)
  | [], a => ⟨Int.le_refl _, (fun _ h => absurd h (List.not_mem_nil)), Or.inl rfl⟩
  | x :: xs, a => by
    obtain ⟨h1, h2, h3⟩ := foldl_max xs (max a x)
    refine ⟨by simp only [List.foldl_cons]; omega, fun y hy => ?_, ?_⟩
    · simp only [List.foldl_cons]
      rcases List.mem_cons.mp hy with z | z
      · subst z; omega
      · exact h2 y z
    · simp only [List.foldl_cons]
      rcases h3 with z | z
      · rw [z]
        by_cases hx : a ≤ x
        · exact Or.inr (by rw [show max a x = x by omega]; exact List.mem_cons_self ..)
        · exact Or.inl (by omega)
      · exact Or.inr (List.mem_cons_of_mem _ z)
theorem foldl_min : ∀ (xs : List Int) (a : Int), xs.foldl min a ≤ a ∧ (∀ y ∈ xs, xs.foldl min a ≤ y) ∧ (xs.foldl min a = a ∨ xs.foldl min a ∈ xs)
  | [], a => ⟨Int.le_refl _, (fun _ h => absurd h (List.not_mem_nil)), Or.inl rfl⟩
  | x :: xs, a => by
    obtain ⟨h1, h2, h3⟩ := foldl_min xs (min a x)
    refine ⟨by simp only [List.foldl_cons]; omega, fun y hy => ?_, ?_⟩
    · simp only [List.foldl_cons]
      rcases List.mem_cons.mp hy with z | z
      · subst z; omega
      · exact h2 y z
    · simp only [List.foldl_cons]
      rcases h3 with z | z
      · rw [z]
        by_cases hx : x ≤ a
        · exact Or.inr (by rw [show min a x = x by omega]; exact List.mem_cons_self ..)
        · exact Or.inl (by omega)
      · exact Or.inr (List.mem_cons_of_mem _ z)
theorem maxL_spec : ∀ {xs : List Int}, xs ≠ [] → maxL xs ∈ xs ∧ ∀ y ∈ xs, y ≤ maxL xs
  | [], h => absurd rfl h
  | x :: xs, _ => by
    obtain ⟨h1, h2, h3⟩ := foldl_max xs x
    refine ⟨?_, fun y hy => ?_⟩
    · show xs.foldl max x ∈ _
      rcases h3 with z | z
      · rw [z]; exact List.mem_cons_self ..
      · exact List.mem_cons_of_mem _ z
    · rcases List.mem_cons.mp hy with z | z
      · subst z; exact h1
      · exact h2 y z
theorem minL_spec : ∀ {xs : List Int}, xs ≠ [] → minL xs ∈ xs ∧ ∀ y ∈ xs, minL xs ≤ y
  | [], h => absurd rfl h
  | x :: xs, _ => by
    obtain ⟨h1, h2, h3⟩ := foldl_min xs x
    refine ⟨?_, fun y hy => ?_⟩
    · show xs.foldl min x ∈ _
      rcases h3 with z | z
      · rw [z]; exact List.mem_cons_self ..
      · exact List.mem_cons_of_mem _ z
    · rcases List.mem_cons.mp hy with z | z
      · subst z; exact h1
      · exact h2 y z
theorem ints_of {K : PySem.W.Frag} {N : Addr → Prop} {ad : Nat → Addr} {n : Nat} {H : Hp} : ∀ {vs : List V} {ns : List Int}, Paired (SvOk K N ad n H) vs ((ns.map PyData.int).map SV.i) → vs = ns.map V.int
  | _, [], h => by cases h; rfl
  | _, x :: ns, h => by
    cases h with
    | cons a b => rw [ints_of b, dn_int (show Dn _ _ _ _ _ from a)]; rfl
theorem ex_maxL {ns : List Int} (h : EvI c env os tl ((ns.map PyData.int).map SV.i)) (hn : ns ≠ []) : EvX w c env os (tCB (rMax c.K) (tCons tl tNil)) (.int (maxL ns)) := fun ad σ H ok Q q =>
  h ad σ H ok _ fun p vs H2 e s r => by
    rw [ints_of r] at s
    refine ⟨p, ns, rfl, s, List.length_pos_iff.mpr hn, fun m hm hu => ?_⟩
    obtain ⟨h1, h2⟩ := maxL_spec hn
    have : m = maxL ns := Int.le_antisymm (h2 m hm) (hu _ h1)
    rw [this]
    exact q _ H2 e (.int _)
theorem ex_minL {ns : List Int} (h : EvI c env os tl ((ns.map PyData.int).map SV.i)) (hn : ns ≠ []) : EvX w c env os (tCB (rMin c.K) (tCons tl tNil)) (.int (minL ns)) := fun ad σ H ok Q q =>
  h ad σ H ok _ fun p vs H2 e s r => by
    rw [ints_of r] at s
    refine ⟨p, ns, rfl, s, List.length_pos_iff.mpr hn, fun m hm hu => ?_⟩
    obtain ⟨h1, h2⟩ := minL_spec hn
    have : m = minL ns := Int.le_antisymm (hu _ h1) (h2 m hm)
    rw [this]
    exact q _ H2 e (.int _)
theorem ex_sum {ns : List Int} (h : EvI c env os tl ((ns.map PyData.int).map SV.i)) : EvX w c env os (tCB (rSum c.K) (tCons tl tNil)) (.int ns.sum) := fun ad σ H ok Q q =>
  h ad σ H ok _ fun p vs H2 e s r => by
    rw [ints_of r] at s
    exact ⟨p, ns, rfl, s, q _ H2 e (.int _)⟩
theorem bls_of {K : PySem.W.Frag} {N : Addr → Prop} {ad : Nat → Addr} {n : Nat} {H : Hp} : ∀ {vs : List V} {ns : List Bool}, Paired (SvOk K N ad n H) vs ((ns.map PyData.bool).map SV.i) → vs = ns.map V.bl
  | _, [], h => by cases h; rfl
  | _, x :: ns, h => by
    cases h with
    | cons a b => rw [bls_of b, dn_bool (show Dn _ _ _ _ _ from a)]; rfl
theorem ex_any {ns : List Bool} (h : EvI c env os tl ((ns.map PyData.bool).map SV.i)) : EvX w c env os (tCB (rAny c.K) (tCons tl tNil)) (.bool (ns.any id)) := fun ad σ H ok Q q =>
  h ad σ H ok _ fun p vs H2 e s r => by
    rw [bls_of r] at s
    exact ⟨p, ns, rfl, s, q _ H2 e (.bl _)⟩
theorem ex_all {ns : List Bool} (h : EvI c env os tl ((ns.map PyData.bool).map SV.i)) : EvX w c env os (tCB (rAll c.K) (tCons tl tNil)) (.bool (ns.all id)) := fun ad σ H ok Q q =>
  h ad σ H ok _ fun p vs H2 e s r => by
    rw [bls_of r] at s
    exact ⟨p, ns, rfl, s, q _ H2 e (.bl _)⟩
end

/-! ### a def's start -/
theorem dnall_len {K : PySem.W.Frag} {N : Addr → Prop} {H : Hp} {vs : List V} {ds : List PyData} (h : DnAll K N H vs ds) : vs.length = ds.length := h.length
def env0 (n : Nat) (ds : List PyData) : Sy := ds.map (fun d => some (SV.i d)) ++ List.replicate (n - ds.length) none
theorem ok_start {K : PySem.W.Frag} {H : Hp} {N : Addr → Prop} {vs : List V} {ds : List PyData} {Nm : List Str} (hN : ∀ a, N a → H a ≠ none) (h : DnAll K N H vs ds) : Ok ⟨K, H, N, fun _ => False, [], 0⟩ (fun _ => 0) (env0 Nm.length ds) [] (L2.start Nm vs) H where
  len := by unfold L2.start env0; simp [h.length]
  ex := fun a o e _ => e
  n0 := hN
  val := fun i s e => by
    unfold env0 at e
    by_cases hi : i < ds.length
    · rw [List.getElem?_append_left (by simpa using hi), List.getElem?_map] at e
      cases hd : ds[i]? with
      | none => rw [hd] at e; cases e
      | some d =>
        rw [hd] at e
        cases e
        obtain ⟨v, h1, h2⟩ := h.get hd
        refine ⟨v, ?_, h2.sub fun a z => z.elim id fun ⟨k, ⟨o, y, _⟩, _⟩ => by simp at y⟩
        unfold L2.start
        rw [List.getElem?_append_left (by rw [List.length_map, h.length]; exact hi), List.getElem?_map, h1]
        rfl
    · rw [List.getElem?_append_right (by simpa using hi)] at e
      rw [List.getElem?_replicate] at e
      split at e <;> cases e
  obj := fun k o e _ => by simp at e
  inj := fun k j ⟨o, e, _⟩ => by simp at e
  nn := fun k ⟨o, e, _⟩ => by simp at e
  frm := fun p hp => by cases hp
  low := Nat.le_refl _
theorem spD_len {K : PySem.W.Frag} {R : List PyData → PyData → Prop} {n : Nat} (hR : ∀ ds d, R ds d → ds.length = n) : ∀ vs H Q E, spD K R vs H Q E → vs.length = n := fun vs H Q E ⟨N, ds, d, _, h, r, _⟩ => h.length.trans (hR ds d r)
theorem spF_len {K : PySem.W.Frag} {R : List PyData → List PyData → Prop} {n : Nat} (hR : ∀ ds d, R ds d → ds.length = n) : ∀ vs H Q E, spF K R vs H Q E → vs.length = n := fun vs H Q E ⟨N, ds, d, _, h, r, _⟩ => h.length.trans (hR ds d r)
/-- the ends of a def's body -/
abbrev De (Q : VK) : Ends := { nx := fun _ H' => Q .non H', rt := Q }
theorem run_spD {K : PySem.W.Frag} {R : List PyData → PyData → Prop} {vs : List V} {H : Hp} {Q : VK} {E : XK} {Nm : List Str} {t : TS} (h : spD K R vs H Q E)
    (g : ∀ N ds d, R ds d → Ret ⟨K, H, N, fun _ => False, [], 0⟩ d (De Q) → Go ⟨K, H, N, fun _ => False, [], 0⟩ (env0 Nm.length ds) [] t (De Q)) : t (De Q) (L2.start Nm vs) H := by
  obtain ⟨N, ds, d, hN, hv, hR, hq⟩ := h
  exact g N ds d hR (fun v H2 e r => hq v H2 (fun a o z => e a o z fun y => y) r) _ _ _ (ok_start hN hv)
theorem run_spF {K : PySem.W.Frag} {R : List PyData → List PyData → Prop} {vs : List V} {H : Hp} {Q : VK} {E : XK} {Nm : List Str} {t : TS} (h : spF K R vs H Q E)
    (g : ∀ N ds rs, R ds rs → RetF ⟨K, H, N, fun _ => False, [], 0⟩ rs (De Q) → Go ⟨K, H, N, fun _ => False, [], 0⟩ (env0 Nm.length ds) [] t (De Q)) : t (De Q) (L2.start Nm vs) H := by
  obtain ⟨N, ds, d, hN, hv, hR, hq⟩ := h
  exact g N ds d hR (fun p H2 ws hp e h1 h2 => hq p H2 ws hp (fun a o z => e a o z fun y => y) h1 h2) _ _ _ (ok_start hN hv)
end DL

set_option Elab.async false
set_option linter.all false
set_option maxRecDepth 100000
set_option maxHeartbeats 2000000
/-! The data layer: a def that is called, the law's end. -/
namespace DL
open PySem PySem.Spec PyProof.Rows L2

/-- the module's name x stands for a def that keeps the promise sp -/
def Cal (P : Program) (w : World) (K : PySem.W.Frag) (mg : Str → Option Value) (base : Heap) (k : Nat) (x : Str) (ps : List Str) (sp : Sp) : Prop :=
  ∃ f fd, FnOk P w K mg base CX0 k f fd ps sp ∧ Binds K fd ps [] ∧ mg x = some (.ref f) ∧ PySem.W.keepIn K (.ref f) = true
theorem pe_cal {X : Cx} {k j : Nat} {ps : List Str} {sp : Sp} {x : Str} {p pos : Pos} {e : Expr} {es : List Expr} {t : TA} (h : Cal X.prog X.w X.K X.mg X.base k x ps sp) (hr : Room j X.A) (hj : k ≤ j) (hg : Gl X x) (hx : Passes CX0 X E0) (ha : PA X (e :: es) t)
    (hdb : (x == ("__debug__" : Str)) = false := by decide) (he : starEach (e :: es) X.env = (false, eval e X.env) :: starEach es X.env := by rfl) (hpl : (backTo pos (starEach es X.env)).any (·.1) = false := by rfl) :
    PE X (.Call (.Name x p) (e :: es) [] pos) (tCall sp [] E0 t) := by
  obtain ⟨f, fd, G, b, g, kp⟩ := h
  exact pe_call G (hr.mono hj) hg g kp b .nil hx ha hdb he hpl
section
variable {P : Program} {w : World} {K : PySem.W.Frag} {mg : Str → Option Value} {base : Heap}
abbrev FnP (K : PySem.W.Frag) (x : Str) (st : Stmt) (f : Addr) (fd : FuncData) : Prop := FunD K x x (defArgs st) (defBody st) (defScope st) [] [] f fd
theorem cal_mk {x : Str} {st : Stmt} {f : Addr} {fd : FuncData} {N ps : List Str} {k : Nat} {sp : Sp} (F : FnP K x st f fd) (S : FnScope N ps (defScope st)) (g : mg x = some (.ref f)) (len : ∀ vs H Q E, sp vs H Q E → vs.length = ps.length)
    (hb : ∀ (kV doc pm : Value) (an : Option Addr) (cdv ct : Value) (us : List Value), us.length = ps.length → bindArgs (PySem.W.fnOf x x (defArgs st) (defBody st) (defScope st) .none kV doc pm an cdv ct) ⟨us, []⟩ = pure (ps.zip us))
    (hbody : ∀ (cdv : Value) (A : Around) (outer : List Env) (s : Shared) (H : Hp) (vs : List V) (Q : VK) (E : XK), Room k (A.deeper (envOfC x (defScope st) s.heap.objs.size f cdv)) → sp vs H Q E →
      ∃ t, PSs (cxOf CX0 P w K mg base N x (defScope st) f cdv A outer s H E).nox (defBody st) t ∧ t (De Q) (L2.start N vs) H) : Cal P w K mg base (k + 1) x ps sp :=
  ⟨f, fd, F.ok S len fun cdv A outer s H vs Q E hr h => let ⟨t, a, b⟩ := hbody cdv A outer s H vs Q E hr h; ⟨t, a.nox, b⟩, F.bindsN hb, g, F.kp⟩
end
/-- the script's promise -/
def RLaw : List PyData → PyData → Prop := fun ds d => ∃ ns : List Int, ns.length ≤ 63 ∧ ds = [.list (ns.map PyData.int)] ∧ d = .bool true
theorem RLaw_len : ∀ ds d, RLaw ds d → ds.length = 1 := fun ds d ⟨ns, _, e, _⟩ => by rw [e]; rfl
theorem ints_dn {K : PySem.W.Frag} {N : Addr → Prop} {H : Hp} : ∀ ns : List Int, DnAll K N H (ns.map V.int) (ns.map PyData.int)
  | [] => .nil
  | n :: ns => .cons (.int n) (ints_dn ns)
theorem law_sp {K : PySem.W.Frag} {H : Hp} {a : Addr} {ns : List Int} (hl : ns.length ≤ 63) (h : SqL K H a (ns.map V.int)) : spD K RLaw [.ref a] H (fun v _ => v = .bl true) fun _ _ _ => False := by
  refine ⟨fun _ => False, [.list (ns.map PyData.int)], .bool true, fun _ z => z.elim, .cons ?_ .nil, ⟨ns, hl, rfl, rfl⟩, fun v H' _ r => dn_bool r⟩
  rcases h with h | h
  · exact .lst h id (ints_dn ns)
  · exact .lstK h (ints_dn ns)
abbrev dD (x : Str) (s : Stmt) : He.DefD := ⟨(x, none), x, x, defArgs s, defBody s, defScope s, [], []⟩
theorem fnok_mk {P : Program} {w : World} {K : PySem.W.Frag} {mg : Str → Option Value} {base : Heap} {x : Str} {st : Stmt} {f : Addr} {fd : FuncData} {N ps : List Str} {k : Nat} {sp : Sp} (F : FnP K x st f fd) (S : FnScope N ps (defScope st)) (len : ∀ vs H Q E, sp vs H Q E → vs.length = ps.length)
    (hbody : ∀ (cdv : Value) (A : Around) (outer : List Env) (s : Shared) (H : Hp) (vs : List V) (Q : VK) (E : XK), Room k (A.deeper (envOfC x (defScope st) s.heap.objs.size f cdv)) → sp vs H Q E →
      ∃ t, PSs (cxOf CX0 P w K mg base N x (defScope st) f cdv A outer s H E).nox (defBody st) t ∧ t (De Q) (L2.start N vs) H) : FnOk P w K mg base CX0 (k + 1) f fd ps sp :=
  F.ok S len fun cdv A outer s H vs Q E hr h => let ⟨t, a, b⟩ := hbody cdv A outer s H vs Q E hr h; ⟨t, a.nox, b⟩
/-- THE END: of a law whose top holds defs and constants -/
theorem walk_end {l : PySem.W.OpenLaw} {k : Nat} {q : Program} {loose : List Str} {XP : (Str → Option Value) → Heap → Prop} {d : DefRec} {fa : List He.Fa} {fn : List He.DefD} {ts : List He.Tab} {tf : List He.Defn} {ex : PySem.W.Frag → Bool} {st : Stmt}
    (hn : l.most = some 63) (hdf : d.params.defaults = []) (hr : Room k callerA) (hd : d.name = ("law" : Str))
    (hba : ∀ (kV doc pm : Value) (an : Option Addr) (cdv ct : Value) (us : List Value), us.length = 1 → bindArgs (PySem.W.fnOf "law" "law" (defArgs st) (defBody st) (defScope st) .none kV doc pm an cdv ct) ⟨us, []⟩ = pure ((["script"] : List Str).zip us))
    (F : ∀ (w : World) (mg : Str → Option Value) (K : PySem.W.Frag) (h : Heap), K.In h → h.Ns mainGlobals mg → He.SaysX fa fn ts tf ex w h K → mg "law" = some (.ref (He.ga K "law")) ∧ ∃ fd, FnP K "law" st (He.ga K "law") fd ∧
      ∀ base : Heap, K.In base → base.Ns mainGlobals mg → FnOk l.prog w K mg base CX0 k (He.ga K "law") fd ["script"] (spD K RLaw)) :
    PySem.W.WalkO q loose XP (He.hookX 4 fa fn ts tf ex).says l.row.toRowW d [] (fun f vs => PySem.call f vs) := by
  refine L2.walk_ofE (k := k) (x := "script") (CX := CX0) hn (by decide) hdf hr ?_ (fun _ _ _ _ z => z)
  intro w mg fa' h Y G hmg
  obtain ⟨K, KX, c⟩ := Y
  rw [hd] at hmg
  obtain ⟨h0, fd, h1, h2⟩ := F w mg K h KX G c
  rw [h0] at hmg
  cases hmg
  exact ⟨K, fd, spD K RLaw, KX, fun s u => FunD.bindsA (ps := ["script"]) h1 hba s [u] rfl, fun H a ns hl _ hS => law_sp hl hS, h2⟩

/-! ### tables -/
theorem getD_map_int (ns : List Int) (j : Nat) (h : j < ns.length) : ((ns.map PyData.int).map SV.i)[j]? = some (.i (.int (ns.getD j 0))) := by
  rw [List.getElem?_map, List.getElem?_map, List.getD_eq_getElem?_getD, List.getElem?_eq_getElem h]
  rfl
theorem ex_tab {w : Bool} {c : Cn} {env : Sy} {os : List SO} {ta tb : TE} {ns : List Int} {i : Int} (h : EvI c env os ta ((ns.map PyData.int).map SV.i)) (hi : EvX true c env os tb (.int i)) (h0 : 0 ≤ i) (h1 : i < (ns.length : Int)) :
    EvX w c env os (tOp (rIxL c.K) ta tb) (.int (ns.getD i.toNat 0)) := by
  refine ex_ixL h hi ?_
  have e : i = ((i.toNat : Nat) : Int) := by omega
  rw [e]
  exact atI_nat (by rw [Int.toNat_natCast]; exact getD_map_int ns _ (by omega))
theorem itD_map {α : Type} {f : α → PyData} {xs : List α} (i : Nat) (x : α) (h : xs[i]? = some x) : itD (xs.map f) i = .i (f x) := itD_at (by rw [List.getElem?_map, h]; rfl)
/-- a for over a list of data -/
theorem gs_forD {α : Type} {c : Cn} {env : Sy} {os : List SO} {g : TG} {tb u : TS} {D : Ends} {tl : TE} {xs : List α} {f : α → PyData} (E : List α → Sy) (O : List α → List SO) (h : EvX false c env os tl (.list (xs.map f)))
    (h0 : ∀ c' : Cn, c'.lo = os.length → ∀ ad σ H, Ok c' ad env os σ H → Ok c' ad (E []) (O []) σ H)
    (hs : ∀ fr, Up c (c.w fr os.length) → ∀ pre x post, xs = pre ++ x :: post → ∃ env' js, Tg (c.w fr os.length) (E pre) (O pre) g (.i (f x)) env' js ∧ Go (c.w fr os.length) env' (O pre) tb { D with nx := OkE (c.w fr os.length) (E (pre ++ [x])) (O (pre ++ [x])), ct := OkE (c.w fr os.length) (E (pre ++ [x])) (O (pre ++ [x])), bk := u D })
    (hd : Go c (E xs) (O xs) u D) : Go c env os (tSeq (tFor (iList c.K tl) g tb) u) D :=
  gs_forL (e := fun x => .i (f x)) E O (ew_list h) (by simp) itD_map h0 (fun _ _ _ => True.intro) hs hd
/-- .. over a tuple -/
theorem gs_forTu {α : Type} {c : Cn} {env : Sy} {os : List SO} {g : TG} {tb u : TS} {D : Ends} {tl : TE} {xs : List α} {f : α → PyData} (E : List α → Sy) (O : List α → List SO) (h : EvX false c env os tl (.tuple (xs.map f)))
    (h0 : ∀ c' : Cn, c'.lo = os.length → ∀ ad σ H, Ok c' ad env os σ H → Ok c' ad (E []) (O []) σ H)
    (hs : ∀ fr, Up c (c.w fr os.length) → ∀ pre x post, xs = pre ++ x :: post → ∃ env' js, Tg (c.w fr os.length) (E pre) (O pre) g (.i (f x)) env' js ∧ Go (c.w fr os.length) env' (O pre) tb { D with nx := OkE (c.w fr os.length) (E (pre ++ [x])) (O (pre ++ [x])), ct := OkE (c.w fr os.length) (E (pre ++ [x])) (O (pre ++ [x])), bk := u D })
    (hd : Go c (E xs) (O xs) u D) : Go c env os (tSeq (tFor (iTup c.K tl) g tb) u) D :=
  gs_forL (e := fun x => .i (f x)) E O (ew_tup h) (by simp) itD_map h0 (fun _ _ _ => True.intro) hs hd
/-- a join behind an if -/
theorem gs_ifJ {c : Cn} {env : Sy} {os : List SO} {tt : TT} {t v u : TS} {D : Ends} {b : Bool} (env' : Sy) (os' : List SO) (h : EvT c env os tt b) (k : Go c env' os' u D) (h1 : b = true → Go c env' os' u D → Go c env os t { D with nx := u D }) (h2 : b = false → Go c env' os' u D → Go c env os v { D with nx := u D }) : Go c env os (tSeq (tIfS tt t v) u) D :=
  gs_if h (fun e => h1 e k) fun e => h2 e k
theorem EvF.is {c : Cn} {env : Sy} {os : List SO} {te : TE} {o o' : SO} (h : EvF c env os te o) (e : o = o') : EvF c env os te o' := e ▸ h
/-! ### equal data -/
theorem eqv_T4 (a b c d e f g h : Int) : PyData.eqv (.tuple [.int a, .int b, .int c, .int d]) (.tuple [.int e, .int f, .int g, .int h]) = decide (a = e ∧ b = f ∧ c = g ∧ d = h) := by
  simp [PyData.eqv, PyData.eqvAll, Bool.beq_eq_decide_eq, Bool.decide_and]
theorem eqv_self_T4 (a b c d : Int) : PyData.eqv (.tuple [.int a, .int b, .int c, .int d]) (.tuple [.int a, .int b, .int c, .int d]) = true := by
  rw [eqv_T4]; simp
theorem shaped_T4 (x y w h : Int) : SeqAt.shaped (.tuple [.int x, .int y, .int w, .int h]) = true := by rfl
end DL

set_option Elab.async false
set_option linter.all false
set_option maxRecDepth 100000
set_option maxHeartbeats 2000000
/-! The data layer: lists of rectangles and the like. -/
namespace DL
open PySem PySem.Spec PyProof.Rows L2
open Evl (Ex Ex.refl Ex.trans Ex.new)

/-! ### shapes of data -/
theorem canAll : ∀ {ds : List PyData}, (∀ d ∈ ds, d.canLay0 = true) → PyData.canLayAll0 ds = true
  | [], _ => rfl
  | d :: ds, h => by
    show (d.canLay0 && PyData.canLayAll0 ds) = true
    rw [h d (List.mem_cons_self ..), canAll fun e he => h e (List.mem_cons_of_mem _ he)]
    rfl
theorem depAll {n : Nat} : ∀ {ds : List PyData}, (∀ d ∈ ds, d.depth ≤ n) → PyData.depthAll ds ≤ n
  | [], _ => Nat.zero_le _
  | d :: ds, h => by
    show max d.depth (PyData.depthAll ds) ≤ n
    exact Nat.max_le.mpr ⟨h d (List.mem_cons_self ..), depAll fun e he => h e (List.mem_cons_of_mem _ he)⟩
theorem shaped_list {ds : List PyData} (h : ∀ d ∈ ds, d.canLay0 = true ∧ d.depth ≤ 63) : SeqAt.shaped (.list ds) = true := by
  unfold SeqAt.shaped
  have h1 : (PyData.list ds).canLay0 = true := canAll fun d hd => (h d hd).1
  have h2 : (PyData.list ds).depth ≤ 64 := by
    show PyData.depthAll ds + 1 ≤ 64
    have := depAll (n := 63) fun d hd => (h d hd).2
    omega
  rw [h1, decide_eq_true h2]
  rfl
theorem eqv_self {d : PyData} (h : SeqAt.shaped d = true) : PyData.eqv d d = true := SeqAt.eqv_refl d (SeqAt.canLay_of_shaped h)

/-! ### rectangles -/
abbrev Rc := Int × Int × Int × Int
def dR (r : Rc) : PyData := .tuple [.int r.1, .int r.2.1, .int r.2.2.1, .int r.2.2.2]
abbrev dRs (rs : List Rc) : PyData := .list (rs.map dR)
theorem shaped_dRs (rs : List Rc) : SeqAt.shaped (dRs rs) = true := shaped_list fun d hd => by
  obtain ⟨r, _, rfl⟩ := List.mem_map.mp hd
  exact ⟨rfl, Nat.le_of_ble_eq_true rfl⟩
theorem noLists_dR : ∀ rs : List Rc, noLists (rs.map dR) = true
  | [] => rfl
  | r :: rs => noLists_dR rs

/-! ### slices -/
theorem cutG_from {α : Type} (xs : List α) (k : Nat) : cutG xs (some (k : Int)) none = xs.drop k := by
  unfold cutG
  rw [HT.sIx_nat, HT.sIx_none]
  by_cases h : k ≤ xs.length
  · rw [Nat.min_eq_left h]
    exact List.take_of_length_le (by rw [List.length_drop]; exact Nat.le_refl _)
  · rw [Nat.min_eq_right (by omega), Nat.sub_self, List.take_zero, List.drop_of_length_le (by omega)]
theorem cutG_to {α : Type} (xs : List α) (k : Nat) : cutG xs none (some (k : Int)) = xs.take k := by
  unfold cutG
  rw [HT.sIx_nat, HT.sIx_none, List.drop_zero, Nat.sub_zero]
  by_cases h : k ≤ xs.length
  · rw [Nat.min_eq_left h]
  · rw [Nat.min_eq_right (by omega), List.take_length, List.take_of_length_le (by omega)]

/-! ### comprehensions over lists of data -/
section
variable {c : Cn} {env : Sy} {os : List SO} {g : TG} {tt : TT} {te tl ta tb : TE} {w : Bool}
theorem ef_lcD {α : Type} {xs : List α} {e : α → PyData} {vs : List Nat} (p : α → Bool) (f : α → PyData) (h : EvX false c env os tl (.list (xs.map e))) (hz : xs.length ≤ 40000)
    (hs : ∀ fr lo, Up c (c.w fr lo) → ∀ acc x, x ∈ xs → ∃ env' js, (∀ j ∈ js, j ∈ vs) ∧ Tg (c.w fr lo) (wipeE env vs) (os ++ [.lst acc]) g (.i (e x)) env' js ∧ EvT (c.w fr lo) env' (os ++ [.lst acc]) tt (p x) ∧ (p x = true → EvX false (c.w fr lo) env' (os ++ [.lst acc]) te (f x))) :
    EvF c env os (tLc (iList c.K tl) g tt te vs) (.lst (((xs.filter p).map f).map SV.i)) :=
  ef_lc (e := fun x => .i (e x)) p f (ew_list h) (by simp) itD_map (fun _ => True.intro) hz hs
/-- over a range -/
theorem ef_lcR {ta : TA} {n : Int} {vs : List Nat} (p : Nat → Bool) (f : Nat → PyData) (h : EvA true c env os ta [.int n]) (hn : -1000000000000 ≤ n ∧ n ≤ 40000)
    (hs : ∀ fr lo, Up c (c.w fr lo) → ∀ acc (x : Nat), (x : Int) < n → ∃ env' js, (∀ j ∈ js, j ∈ vs) ∧ Tg (c.w fr lo) (wipeE env vs) (os ++ [.lst acc]) g (.i (.int (x : Int))) env' js ∧ EvT (c.w fr lo) env' (os ++ [.lst acc]) tt (p x) ∧ (p x = true → EvX false (c.w fr lo) env' (os ++ [.lst acc]) te (f x))) :
    EvF c env os (tLc (iRng1 ta) g tt te vs) (.lst ((((List.range n.toNat).filter p).map f).map SV.i)) :=
  ef_lc (e := fun (x : Nat) => .i (.int (x : Int))) p f (ew_range1 h (by omega)) (by simp) (fun i x hx => by
    obtain ⟨h1, h2⟩ := List.getElem?_eq_some_iff.mp hx
    rw [List.getElem_range] at h2
    rw [h2]) (fun _ => True.intro) (by simp; omega) fun fr lo up acc x hx => hs fr lo up acc x (by have := List.mem_range.mp hx; omega)
theorem et_yes : EvT c env os tYes true := fun ad σ H ok Q q => q H (Ex.refl H)
/-- an item of a written list of data -/
theorem ex_tabD {ds : List PyData} {i : Int} (h : EvI c env os ta (ds.map SV.i)) (hi : EvX true c env os tb (.int i)) (h0 : 0 ≤ i) (h1 : i < (ds.length : Int)) :
    EvX w c env os (tOp (rIxL c.K) ta tb) (ds.getD i.toNat .none) := by
  refine ex_ixL h hi ?_
  have e : i = ((i.toNat : Nat) : Int) := by omega
  have hj : i.toNat < ds.length := by omega
  rw [e]
  refine atI_nat ?_
  rw [Int.toNat_natCast, List.getElem?_map, List.getD_eq_getElem?_getD, List.getElem?_eq_getElem hj]
  rfl
/-- xs.insert(i, e) -/
theorem gs_ins {u : TS} {D : Ends} {k : Nat} {ss : List SV} {d : PyData} {i : Int} {r : V → List V → Hp → VK → Prop} (hr : r = fun x vs H Q => ∃ (l : Addr) (xs : List V) (i : Int) (y : V), x = .ref l ∧ vs = [.int i, y] ∧ H l = some (.lst xs) ∧ xs.length < sizeLine ∧ 0 ≤ i ∧ i < 2 ^ 63 ∧ Q .non (upd H l (.lst (xs.take i.toNat ++ [y] ++ xs.drop i.toNat))))
    (hl : EvR c env os tl k) (hk : os[k]? = some (.lst ss)) (hi : EvX true c env os ta (.int i)) (h : EvX false c env os te d) (hz : ss.length < 100000) (h0 : 0 ≤ i) (h1 : i < 2 ^ 63)
    (kk : Go c env (os.set k (.lst (ss.take i.toNat ++ [.i d] ++ ss.drop i.toNat))) u D) : Go c env os (tSeq (tDrop (tBM c.K "list" r tl (tCons ta (tCons te tNil)))) u) D := fun ad σ H ok => by
  subst hr
  refine hl.2 ad σ H ok _ fun H1 e1 => ?_
  have ok1 := ok.ext e1
  obtain ⟨_, vs, hvs, pv⟩ := ok1.obj k _ hk rfl
  refine ⟨Or.inl ⟨rfl, vs, SqL.of hvs⟩, hi ad σ H1 ok1 _ fun v2 H2 e2 r2 => h ad σ H2 (ok1.ext e2) _ fun v H3 e3 r3 => ?_⟩
  have ok3 := (ok1.ext e2).ext e3
  have e23 := e2.trans e3
  have hv3 := e23 _ _ hvs
  refine ⟨ad k, vs, i, v, rfl, by rw [dn_int r2], hv3, Nat.lt_of_lt_of_le (by rw [Paired.length pv]; exact hz) (by decide), h0, h1, ?_⟩
  rw [Nw_false] at r3
  have hN : Nof c ad os (ad k) := Or.inr ⟨k, ⟨_, hk, rfl⟩, rfl⟩
  refine kk ad σ _ (ok3.mut hk rfl rfl ⟨_, upd_same, ?_⟩)
  have app : ∀ {l1 : List V} {m1 : List SV} {l2 : List V} {m2 : List SV}, Paired (SvOk c.K (Nof c ad os) ad os.length (upd H3 (ad k) (.lst (vs.take i.toNat ++ [v] ++ vs.drop i.toNat)))) l1 m1 → Paired (SvOk c.K (Nof c ad os) ad os.length (upd H3 (ad k) (.lst (vs.take i.toNat ++ [v] ++ vs.drop i.toNat)))) l2 m2 → Paired (SvOk c.K (Nof c ad os) ad os.length (upd H3 (ad k) (.lst (vs.take i.toNat ++ [v] ++ vs.drop i.toNat)))) (l1 ++ l2) (m1 ++ m2) := by
    intro l1 m1 l2 m2 p q
    induction p with
    | nil => exact q
    | cons r t ih => exact .cons r ih
  have pv3 := Paired.imp pv fun a b z => (z.ext e23).mut hv3 rfl hN (o' := .lst (vs.take i.toNat ++ [v] ++ vs.drop i.toNat))
  exact app (app (Paired.take _ pv3) (.cons (show Dn _ _ _ _ _ from Dn.mut hv3 rfl hN r3) .nil)) (Paired.drop _ pv3)
end
end DL

set_option Elab.async false
set_option linter.all false
set_option maxRecDepth 100000
set_option maxHeartbeats 2000000
/-! The data layer: the rules that name what the module has written, told by a letter. -/
namespace DL
open PySem PySem.Spec PyProof.Rows L2
section
variable {X : Cx} {K : PySem.W.Frag} {pos : Pos}
theorem kIxL (h : X.K = K := by rfl) : IxR X (rIxL K) := by subst h; exact ix_list
theorem kIxT (h : X.K = K := by rfl) : IxR X (rIxT K) := by subst h; exact ix_tup
theorem kSlL (h : X.K = K := by rfl) : SlR X (rSlL K) := by subst h; exact sl_list
theorem kSlT (h : X.K = K := by rfl) : SlR X (rSlT K) := by subst h; exact sl_tup
def rLenK (K : PySem.W.Frag) : List V → Hp → VK → Prop := fun xs H Q => ∃ p ys, xs = [.ref p] ∧ (SqL K H p ys ∨ SqT K H p ys) ∧ Q (.int ys.length) H
theorem kLen (h : X.K = K := by rfl) : CallR X (.builtin "len") (rLenK K) := by subst h; exact call_len_seq
def rListK (K : PySem.W.Frag) : List V → Hp → VK → Prop := fun xs H Q => ∃ p ys, xs = [.ref p] ∧ (SqL K H p ys ∨ SqT K H p ys) ∧ ∀ l, H l = none → Q (.ref l) (upd H l (.lst ys))
theorem kList (h : X.K = K := by rfl) : CallR X (.type "list") (rListK K) := by subst h; exact call_list_of
theorem kSum (hc : X.calm = true) (h : X.K = K := by rfl) : CallR X (.builtin "sum") (rSum K) := by subst h; exact cr_sum hc
theorem kMax (hc : X.calm = true) (h : X.K = K := by rfl) : CallR X (.builtin "max") (rMax K) := by subst h; exact cr_max hc
theorem kMin (hc : X.calm = true) (h : X.K = K := by rfl) : CallR X (.builtin "min") (rMin K) := by subst h; exact cr_min hc
theorem kAny (hc : X.calm = true) (h : X.K = K := by rfl) : CallR X (.builtin "any") (rAny K) := by subst h; exact cr_any hc
theorem kAll (hc : X.calm = true) (h : X.K = K := by rfl) : CallR X (.builtin "all") (rAll K) := by subst h; exact cr_all hc
theorem kIsi (h : X.K = K := by rfl) : CallR X (.builtin "isinstance") (rIsi K) := by subst h; exact call_isi
theorem kEqD (hu : X.A.units + 64 < cLine) (h : X.K = K := by rfl) : OpR X (compareOp .Eq) (rEqD K) := by subst h; exact op_eqD hu
theorem kNeD (hu : X.A.units + 64 < cLine) (h : X.K = K := by rfl) : OpR X (compareOp .NotEq) (rNeD K) := by subst h; exact op_neD hu
theorem kBm {T : String} {r : V → List V → Hp → VK → Prop} {e : Expr} {to : TE} {t : TA} (h : PE X e (tBM X.K T r to t)) (hk : X.K = K := by rfl) : PE X e (tBM K T r to t) := by subst hk; exact h
theorem kTup {es : List Expr} {k : Nat} {t : TGs} {n : Nat} (hc : X.calm = true) (h : PGs X es t)
    (hn : (assignEach es X.env).length = n := by rfl) (hst : (assignEach es X.env).findIdx? (·.1) = none := by rfl) (hk : X.K = K := by rfl) : PG X (.Tuple es k pos) (gTup K n t) := by subst hk; exact pg_tup hc h hn hst
theorem kPiL {tg l : Expr} {tl : TE} (hl : PE X l tl) (hk : X.K = K := by rfl) : PI X tg l (iList K tl) := by subst hk; exact pi_list hl
theorem kPiT {tg l : Expr} {tl : TE} (hl : PE X l tl) (hk : X.K = K := by rfl) : PI X tg l (iTup K tl) := by subst hk; exact pi_tup hl
def tTruK (K : PySem.W.Frag) (ta : TE) : TT := fun σ H Q => ta σ H fun x H' => ∃ k, TruV K x H' k ∧ Q k H'
theorem kTru {a : Expr} {ta : TE} (ha : PE X a ta) (he : ∀ whole, isTrue a X.env whole = (do let v ← whole; standAt a.pos; holding [v] (truthy v))) (hk : X.K = K := by rfl) : PT X a (tTruK K ta) := by subst hk; exact pt_truth ha he
end
section
variable {w : Bool} {c : Cn} {env : Sy} {os : List SO} {te ta tb tl : TE} {d : PyData} {tt tu : TT}
theorem ex_lenK {ss : List SV} (h : EvI c env os te ss) : EvX w c env os (tCB (rLenK c.K) (tCons te tNil)) (.int (ss.length : Int)) := ex_len rfl h
theorem ex_lenTK {ds : List PyData} (h : EvX true c env os te (.tuple ds)) : EvX w c env os (tCB (rLenK c.K) (tCons te tNil)) (.int (ds.length : Int)) := ex_lenT rfl h
theorem ef_listK {ss : List SV} (h : EvI c env os te ss) : EvF c env os (tCB (rListK c.K) (tCons te tNil)) (.lst ss) := ef_list rfl h
theorem et_truK {ss : List SV} (h : EvI c env os te ss) : EvT c env os (tTruK c.K te) (!ss.isEmpty) := et_truL rfl h
end
theorem soLt_data {n : Nat} {ds : List PyData} : SoLt n (.lst (ds.map SV.i)) := fun s hs => by
  obtain ⟨d, _, rfl⟩ := List.mem_map.mp hs
  exact True.intro
theorem filt_all {α : Type} (xs : List α) : xs.filter (fun _ => true) = xs := List.filter_eq_self.mpr fun _ _ => rfl
end DL

set_option Elab.async false
set_option linter.all false
set_option maxRecDepth 100000
set_option maxHeartbeats 4000000
open PySem PySem.Spec PyProof.Rows L2 DL
namespace Q
def topS (i : Nat) : Stmt := PySem.Challenge.pw_quirekiln_k03_bounding_rectangle.main.body.getD i (.Pass ⟨0, 0, 0, 0⟩)
abbrev T4 (x y w h : Int) : PyData := .tuple [.int x, .int y, .int w, .int h]
local macro_rules | `(tactic| walk_at "cc") => `(tactic| first
  | assumption | decide | omega
  | exact Or.inr ⟨by decide, by decide⟩ | exact Or.inl ⟨by decide, by decide⟩
  | (refine Or.inr ⟨?_, ?_⟩ <;> omega) | (refine Or.inl ⟨?_, ?_⟩ <;> omega)
  | (refine ⟨?_, ?_⟩ <;> omega) | (dsimp only; omega) | (simp only [CDiv, CMul, CPow]; omega))
local macro_rules | `(tactic| walk_at "at") => `(tactic| first | rfl | exact atI_nat rfl)
local macro_rules | `(tactic| walk_at "v") => `(tactic| first
  | exact ex_int | exact ex_bl | exact ex_non | exact ex_str
  | exact ex_var rfl
  | exact ex_const (by assumption)
  | (refine' ex_i2 ?va ?vb; (case va => walk_at "v"); (case vb => walk_at "v"))
  | (refine' ex_b2 ?va ?vb; (case va => walk_at "v"); (case vb => walk_at "v"))
  | (refine' ex_i2c ?va ?vb ?vc; (case va => walk_at "v"); (case vb => walk_at "v"); (case vc => walk_at "cc"))
  | (refine' ex_u ?va; (case va => walk_at "v"))
  | (refine' ex_tup ?va ?vb; (case va => walk_at "a"); (case vb => exact Nat.le_of_ble_eq_true rfl))
  | (refine' ex_int1 rfl ?va; (case va => walk_at "v"))
  | (refine' ex_and ?va ?vb; (case va => walk_at "v"); (case vb => intro _; walk_at "v"))
  | (refine' ex_or ?va ?vb; (case va => walk_at "v"); (case vb => intro _; walk_at "v"))
  | (refine' ex_not ?va; (case va => walk_at "v"))
  | (refine' ex_chain rfl rfl ?va ?vb ?vc; (case va => walk_at "v"); (case vb => walk_at "v"); (case vc => walk_at "v"))
  | (refine' ex_ixT ?va ?vb ?vc; (case va => walk_at "v"); (case vb => walk_at "v"); (case vc => walk_at "at"))
  | (refine' ex_eqI ?va ?vb; (case va => walk_at "v"); (case vb => walk_at "v"))
  | (refine' ex_neI ?va ?vb; (case va => walk_at "v"); (case vb => walk_at "v"))
  | (refine' ex_eqB ?va ?vb; (case va => walk_at "v"); (case vb => walk_at "v"))
  | (refine' ex_neB ?va ?vb; (case va => walk_at "v"); (case vb => walk_at "v"))
  | (refine' ex_eqD ?va ?vb ?vc ?vd; (case va => walk_at "v"); (case vb => walk_at "v"); (case vc => walk_at "sh"); (case vd => walk_at "sh"))
  | (refine' ex_neD ?va ?vb ?vc ?vd; (case va => walk_at "v"); (case vb => walk_at "v"); (case vc => walk_at "sh"); (case vd => walk_at "sh"))
  | (refine' ex_isi ?va ?vb; (case va => walk_at "v"); (case vb => walk_at "kit"))
  | (refine' ex_lenK ?va; (case va => walk_at "i"))
  | (refine' ex_lenTK ?va; (case va => walk_at "v"))
  | (refine' ex_max2 rfl ?va ?vb; (case va => walk_at "v"); (case vb => walk_at "v"))
  | (refine' ex_min2 rfl ?va ?vb; (case va => walk_at "v"); (case vb => walk_at "v"))
  | (refine' ex_call ?va ?vb; (case va => walk_at "a"); (case vb => walk_at "r"))
  | (refine' EvF.ev ?va; (case va => walk_at "f")))
local macro_rules | `(tactic| walk_at "a") => `(tactic| first
  | exact ea_nil
  | (refine' ea_cons ?va ?vb; (case va => walk_at "v"); (case vb => walk_at "a")))
local macro_rules | `(tactic| walk_at "f") => `(tactic| first
  | (refine' ef_lst (EvA.ss (ds := _) ?va) ?vb; (case va => walk_at "a"); (case vb => exact Nat.le_of_ble_eq_true rfl))
  | (refine' ef_listK ?va; (case va => walk_at "i")))
local macro_rules | `(tactic| walk_at "i") => `(tactic| first
  | (refine' EvX.it ?va; (case va => walk_at "v"))
  | (refine' EvR.it (er_var rfl ?va) rfl; (case va => decide)))
local macro_rules | `(tactic| walk_at "t") => `(tactic| first
  | (refine' et_test ?va; (case va => walk_at "v"))
  | (refine' et_B ?va; (case va => walk_at "v"))
  | (refine' et_and ?va ?vb; (case va => walk_at "t"); (case vb => intro _; walk_at "t"))
  | (refine' et_or ?va ?vb; (case va => walk_at "t"); (case vb => intro _; walk_at "t"))
  | (refine' et_not ?va; (case va => walk_at "t")))
local macro_rules | `(tactic| walk_at "r") => `(tactic| first | assumption | walk_at "r2")
local macro_rules | `(tactic| walk_at "set") => `(tactic| (refine' gs_asg ?va ?_; (case va => walk_at "v")))
local macro_rules | `(tactic| walk_at "env") => `(tactic| simp only [env0, List.map, List.length, List.replicate, List.append, List.cons_append, List.nil_append, Nat.reduceAdd, Nat.reduceSub, Nat.sub_self])
local macro_rules | `(tactic| walk_at "ret") => `(tactic| (refine' gs_ret (EvX.is ?va ?vb) (by assumption); (case va => walk_at "v"); (try (case vb => rfl))))
local macro_rules | `(tactic| walk_at "asg4") => `(tactic| (refine' gs_asgT ?va (tg_tup (tgs_cons tg_name (tgs_cons tg_name (tgs_cons tg_name (tgs_cons tg_name tgs_nil)))) rfl) ?_; (case va => walk_at "v")))
local macro_rules | `(tactic| walk_at "asg3") => `(tactic| (refine' gs_asgT ?va (tg_tup (tgs_cons tg_name (tgs_cons tg_name (tgs_cons tg_name tgs_nil))) rfl) ?_; (case va => walk_at "v")))
local macro_rules | `(tactic| walk_at "nf") => `(tactic| simp only [List.set_cons_zero, List.set_cons_succ])
local macro_rules | `(tactic| walk_at "wk") => `(tactic| (refine g_next ?_; intro ad σ H ok; exact (show OkE _ _ _ _ _ from ⟨ad, ok.weak (by simp [WkE]) (by simp [WkO]) (by simp [EnLt, SvLt]) (by walk_at "osl") (by simp)⟩)))
local macro_rules | `(tactic| walk_at "kit") => `(tactic| first | exact kit_int_int | exact kit_int_bool | exact kit_int_str | exact kit_int_tuple | exact kit_int_list | exact kit_int_dict | exact kit_bool_int | exact kit_bool_bool | exact kit_bool_str | exact kit_bool_tuple | exact kit_bool_list | exact kit_bool_dict | exact kit_str_int | exact kit_str_bool | exact kit_str_str | exact kit_str_tuple | exact kit_str_list | exact kit_str_dict | exact kit_tuple_int | exact kit_tuple_bool | exact kit_tuple_str | exact kit_tuple_tuple | exact kit_tuple_list | exact kit_tuple_dict | exact kit_list_int | exact kit_list_bool | exact kit_list_str | exact kit_list_tuple | exact kit_list_list | exact kit_list_dict | exact kit_NoneType_int | exact kit_NoneType_bool | exact kit_NoneType_str | exact kit_NoneType_tuple | exact kit_NoneType_list | exact kit_NoneType_dict | exact kit_dict_int | exact kit_dict_bool | exact kit_dict_str | exact kit_dict_tuple | exact kit_dict_list | exact kit_dict_dict)
local macro_rules | `(tactic| walk_at "sh") => `(tactic| first | exact shaped_T4 _ _ _ _ | assumption | rfl)
local macro_rules | `(tactic| walk_at "f") => `(tactic| (refine' ef_call ?va ?vb; (case va => walk_at "a"); (case vb => walk_at "r")))
local macro_rules | `(tactic| walk_at "f") => `(tactic| (refine' ef_cat ?va ?vb ?vc; (case va => walk_at "f"); (case vb => walk_at "f"); (case vc => first | exact Nat.le_of_ble_eq_true rfl | assumption)))
local macro_rules | `(tactic| walk_at "skip") => `(tactic| (refine' gs_if (b := false) (EvT.is ?va ?vb) (fun hb => nomatch hb) (fun _ => g_nextU ?_); (case va => walk_at "t"); (case vb => first | rfl | (simp; done))))
local macro_rules | `(tactic| walk_at "t") => `(tactic| (refine' et_truK ?va; (case va => walk_at "i")))
local macro_rules | `(tactic| walk_at "t") => `(tactic| exact et_yes)
local macro_rules | `(tactic| walk_at "js") => `(tactic| (intro j hj; simpa using hj))
local macro_rules | `(tactic| walk_at "we") => `(tactic| simp only [wipeE, List.set_cons_zero, List.set_cons_succ, List.map_cons, List.map_nil])
local macro_rules | `(tactic| walk_at "tg4") => `(tactic| exact tg_tup (tgs_cons tg_name (tgs_cons tg_name (tgs_cons tg_name (tgs_cons tg_name tgs_nil)))) rfl)
local macro_rules | `(tactic| walk_at "osl") => `(tactic| first | exact True.intro | exact ⟨soLt_data, True.intro⟩ | exact ⟨soLt_data, soLt_data, True.intro⟩ | exact ⟨soLt_data, soLt_data, soLt_data, True.intro⟩ | simp [OsLt, SoLt, SvLt])

abbrev s_is_empty : Stmt := topS 2
theorem sc_is_empty : FnScope ["rect"] ["rect"] (defScope s_is_empty) := ⟨rfl, rfl, rfl, by decide +kernel, rfl, by decide +kernel, by decide +kernel⟩
def R_is_empty : List PyData → PyData → Prop := fun ds d => ∃ x y w h, ds = [T4 x y w h] ∧ d = .bool (decide (w ≤ 0) || decide (h ≤ 0))
theorem R_is_empty_i {x y w h : Int} : R_is_empty [T4 x y w h] (.bool (decide (w ≤ 0) || decide (h ≤ 0))) := ⟨x, y, w, h, rfl, rfl⟩
local macro_rules | `(tactic| walk_at "r2") => `(tactic| exact R_is_empty_i)
theorem R_is_empty_len : ∀ ds d, R_is_empty ds d → ds.length = 1 := by
  intro ds d hh
  unfold R_is_empty at hh
  repeat (obtain ⟨_, hh⟩ := hh)
  subst_eqs
  rfl
theorem ok_is_empty {P : Program} {w : World} {K : PySem.W.Frag} {mg : Str → Option Value} {base : Heap} {f : Addr} {fd : FuncData} (F : FnP K "is_empty" s_is_empty f fd) (g0 : mg "is_empty" = some (.ref f)) : Cal P w K mg base 1 "is_empty" ["rect"] (spD K R_is_empty) := by
  refine cal_mk F sc_is_empty g0 (spD_len R_is_empty_len) (fun _ _ _ _ _ _ us hl => match us, hl with | [_], _ => rfl) (fun cdv A outer s H vs Q E hr h => ⟨_,
    (pss_cons (ps_ret (pe_or (pe_cmpR op_le (pe_ix (DL.kIxT (K := K)) (pv 0) pe_int (fun _ _ => rfl)) pe_int (nomark _)) (pe_one (pe_cmpR op_le (pe_ix (DL.kIxT (K := K)) (pv 0) pe_int (fun _ _ => rfl)) pe_int (nomark _)))))
     pss_nil), ?_⟩)
  refine run_spD h fun N ds d hR hq => ?_
  obtain ⟨x, y, w, h, rfl, rfl⟩ := hR
  walk_at "env"
  walk_at "ret"
abbrev s_bounding : Stmt := topS 3
theorem sc_bounding : FnScope ["rects", "filled", "left", "top", "right", "bottom", "rect", "x", "y", "w", "h"] ["rects"] (defScope s_bounding) := ⟨rfl, rfl, rfl, by decide +kernel, rfl, by decide +kernel, by decide +kernel⟩
def emptyR (r : Rc) : Bool := decide (r.2.2.1 ≤ 0) || decide (r.2.2.2 ≤ 0)
def fullR (rs : List Rc) : List Rc := rs.filter fun r => !emptyR r
def bnd (fs : List Rc) : Rc := (minL (fs.map (·.1)), minL (fs.map (·.2.1)), maxL (fs.map fun r => r.1 + r.2.2.1) - minL (fs.map (·.1)), maxL (fs.map fun r => r.2.1 + r.2.2.2) - minL (fs.map (·.2.1)))
def bndR (rs : List Rc) : Rc := if (fullR rs).isEmpty = true then (0, 0, 0, 0) else bnd (fullR rs)
theorem em_i (r : Rc) : R_is_empty [dR r] (.bool (emptyR r)) := ⟨_, _, _, _, rfl, rfl⟩
def R_bounding : List PyData → PyData → Prop := fun ds d => ∃ rs : List Rc, rs.length ≤ 40000 ∧ ds = [dRs rs] ∧ d = dR (bndR rs)
theorem R_bounding_i {rs : List Rc} (h : rs.length ≤ 40000) : R_bounding [dRs rs] (dR (bndR rs)) := ⟨rs, h, rfl, rfl⟩
local macro_rules | `(tactic| walk_at "r2") => `(tactic| exact R_bounding_i (by first | assumption | omega))
theorem R_bounding_len : ∀ ds d, R_bounding ds d → ds.length = 1 := by
  intro ds d hh
  unfold R_bounding at hh
  repeat (obtain ⟨_, hh⟩ := hh)
  subst_eqs
  rfl
theorem ok_bounding {P : Program} {w : World} {K : PySem.W.Frag} {mg : Str → Option Value} {base : Heap} {f : Addr} {fd : FuncData} (F : FnP K "bounding" s_bounding f fd) (g0 : mg "bounding" = some (.ref f)) (h_is_empty : Cal P w K mg base 1 "is_empty" ["rect"] (spD K R_is_empty)) (z_min : mg "min" = none) (z_max : mg "max" = none) {a_EMPTY : Addr} (c_EMPTY : mg "EMPTY" = some (.ref a_EMPTY)) (k_EMPTY : ∀ N H, Dn K N H (.ref a_EMPTY) (.tuple [(.int 0), (.int 0), (.int 0), (.int 0)])) : Cal P w K mg base 2 "bounding" ["rects"] (spD K R_bounding) := by
  refine cal_mk F sc_bounding g0 (spD_len R_bounding_len) (fun _ _ _ _ _ _ us hl => match us, hl with | [_], _ => rfl) (fun cdv A outer s H vs Q E hr h => ⟨_,
    (pss_cons (ps_setLc (i := 1) (own := [("rect", 6)]) (by rfl) sc_bounding.nd rfl rfl (sw_true rfl rfl rfl (by decide +kernel)) (DL.kPiL (K := K) (pv 0)) (blkOk_by (own := [("rect", 6)]) (N := ["rects", "filled", "left", "top", "right", "bottom", "rect", "x", "y", "w", "h"]) (sc := defScope s_bounding) (by decide +kernel)) (fun _ _ _ _ _ => (pg_name (i := 6) sc_bounding.nd rfl (by first | exact Or.inl rfl | exact Or.inr rfl))) (fun _ _ _ _ _ => (pts_one (pt_not (pt_val (DL.pe_cal h_is_empty hr (by decide) (by rfl) pass0 (pa_cons (pv 6) pa_nil)))))) (fun _ _ _ _ _ => (pv 6)))
     (pss_cons (ps_if (pt_not (DL.kTru (K := K) (pv 1) (by intro _; rfl)))
     (pss_cons (ps_ret (pe_glob (v := .ref a_EMPTY) (by rfl) c_EMPTY rfl))
     pss_nil)
     pss_nil)
     (pss_cons (ps_set (i := 2) sc_bounding.nd rfl (by first | exact Or.inl rfl | exact Or.inr rfl) (pe_callB (DL.kMin (K := K) rfl) (by rfl) z_min (by decide +kernel) (pa_cons (pe_lc (own := [("x", 7), ("y", 8), ("w", 9), ("h", 10)]) (by rfl) sc_bounding.nd (DL.kPiL (K := K) (pv 1)) (blkOk_by (own := [("x", 7), ("y", 8), ("w", 9), ("h", 10)]) (N := ["rects", "filled", "left", "top", "right", "bottom", "rect", "x", "y", "w", "h"]) (sc := defScope s_bounding) (by decide +kernel)) (fun _ _ _ _ _ => (DL.kTup (K := K) (n := 4) rfl (pgs_cons (pg_name (i := 7) sc_bounding.nd rfl (by first | exact Or.inl rfl | exact Or.inr rfl)) (pgs_cons (pg_name (i := 8) sc_bounding.nd rfl (by first | exact Or.inl rfl | exact Or.inr rfl)) (pgs_cons (pg_name (i := 9) sc_bounding.nd rfl (by first | exact Or.inl rfl | exact Or.inr rfl)) (pgs_cons (pg_name (i := 10) sc_bounding.nd rfl (by first | exact Or.inl rfl | exact Or.inr rfl)) pgs_nil)))))) (fun _ _ _ _ _ => pts_nil) (fun _ _ _ _ _ => (pv 7))) pa_nil)))
     (pss_cons (ps_set (i := 3) sc_bounding.nd rfl (by first | exact Or.inl rfl | exact Or.inr rfl) (pe_callB (DL.kMin (K := K) rfl) (by rfl) z_min (by decide +kernel) (pa_cons (pe_lc (own := [("x", 7), ("y", 8), ("w", 9), ("h", 10)]) (by rfl) sc_bounding.nd (DL.kPiL (K := K) (pv 1)) (blkOk_by (own := [("x", 7), ("y", 8), ("w", 9), ("h", 10)]) (N := ["rects", "filled", "left", "top", "right", "bottom", "rect", "x", "y", "w", "h"]) (sc := defScope s_bounding) (by decide +kernel)) (fun _ _ _ _ _ => (DL.kTup (K := K) (n := 4) rfl (pgs_cons (pg_name (i := 7) sc_bounding.nd rfl (by first | exact Or.inl rfl | exact Or.inr rfl)) (pgs_cons (pg_name (i := 8) sc_bounding.nd rfl (by first | exact Or.inl rfl | exact Or.inr rfl)) (pgs_cons (pg_name (i := 9) sc_bounding.nd rfl (by first | exact Or.inl rfl | exact Or.inr rfl)) (pgs_cons (pg_name (i := 10) sc_bounding.nd rfl (by first | exact Or.inl rfl | exact Or.inr rfl)) pgs_nil)))))) (fun _ _ _ _ _ => pts_nil) (fun _ _ _ _ _ => (pv 8))) pa_nil)))
     (pss_cons (ps_set (i := 4) sc_bounding.nd rfl (by first | exact Or.inl rfl | exact Or.inr rfl) (pe_callB (DL.kMax (K := K) rfl) (by rfl) z_max (by decide +kernel) (pa_cons (pe_lc (own := [("x", 7), ("y", 8), ("w", 9), ("h", 10)]) (by rfl) sc_bounding.nd (DL.kPiL (K := K) (pv 1)) (blkOk_by (own := [("x", 7), ("y", 8), ("w", 9), ("h", 10)]) (N := ["rects", "filled", "left", "top", "right", "bottom", "rect", "x", "y", "w", "h"]) (sc := defScope s_bounding) (by decide +kernel)) (fun _ _ _ _ _ => (DL.kTup (K := K) (n := 4) rfl (pgs_cons (pg_name (i := 7) sc_bounding.nd rfl (by first | exact Or.inl rfl | exact Or.inr rfl)) (pgs_cons (pg_name (i := 8) sc_bounding.nd rfl (by first | exact Or.inl rfl | exact Or.inr rfl)) (pgs_cons (pg_name (i := 9) sc_bounding.nd rfl (by first | exact Or.inl rfl | exact Or.inr rfl)) (pgs_cons (pg_name (i := 10) sc_bounding.nd rfl (by first | exact Or.inl rfl | exact Or.inr rfl)) pgs_nil)))))) (fun _ _ _ _ _ => pts_nil) (fun _ _ _ _ _ => (pe_op op_add (pv 7) (pv 9)))) pa_nil)))
     (pss_cons (ps_set (i := 5) sc_bounding.nd rfl (by first | exact Or.inl rfl | exact Or.inr rfl) (pe_callB (DL.kMax (K := K) rfl) (by rfl) z_max (by decide +kernel) (pa_cons (pe_lc (own := [("x", 7), ("y", 8), ("w", 9), ("h", 10)]) (by rfl) sc_bounding.nd (DL.kPiL (K := K) (pv 1)) (blkOk_by (own := [("x", 7), ("y", 8), ("w", 9), ("h", 10)]) (N := ["rects", "filled", "left", "top", "right", "bottom", "rect", "x", "y", "w", "h"]) (sc := defScope s_bounding) (by decide +kernel)) (fun _ _ _ _ _ => (DL.kTup (K := K) (n := 4) rfl (pgs_cons (pg_name (i := 7) sc_bounding.nd rfl (by first | exact Or.inl rfl | exact Or.inr rfl)) (pgs_cons (pg_name (i := 8) sc_bounding.nd rfl (by first | exact Or.inl rfl | exact Or.inr rfl)) (pgs_cons (pg_name (i := 9) sc_bounding.nd rfl (by first | exact Or.inl rfl | exact Or.inr rfl)) (pgs_cons (pg_name (i := 10) sc_bounding.nd rfl (by first | exact Or.inl rfl | exact Or.inr rfl)) pgs_nil)))))) (fun _ _ _ _ _ => pts_nil) (fun _ _ _ _ _ => (pe_op op_add (pv 8) (pv 10)))) pa_nil)))
     (pss_cons (ps_ret (pe_tup (pa_cons (pv 2) (pa_cons (pv 3) (pa_cons (pe_op op_sub (pv 4) (pv 2)) (pa_cons (pe_op op_sub (pv 5) (pv 3)) pa_nil))))))
     pss_nil))))))), ?_⟩)
  refine run_spD h fun N ds d hR hq => ?_
  obtain ⟨rs, hl, rfl, rfl⟩ := hR
  walk_at "env"
  refine' gs_asg (d := dRs (fullR rs)) ?f1 ?_
  case f1 =>
    refine' EvF.ev (ds := (fullR rs).map dR) ?f2
    refine' ef_lcD (xs := rs) (e := dR) (fun r => !emptyR r) dR (ex_var rfl) hl (fun fr lo up acc r hr' => ⟨_, _, ?j1, tg_name, ?j2, ?j3⟩)
    case j1 => walk_at "js"
    case j2 =>
      walk_at "we"
      refine' et_not (et_B (ex_call (ea_cons ?j4 ea_nil) (em_i r)))
      case j4 => walk_at "v"
    case j3 =>
      intro _
      walk_at "we"
      walk_at "v"
  walk_at "nf"
  refine' gs_if (b := (fullR rs).isEmpty) (EvT.is ?t1 ?e1) ?a1 ?b1
  case t1 => walk_at "t"
  case e1 => simp
  case a1 =>
    intro hb
    rw [show dR (bndR rs) = T4 0 0 0 0 by unfold bndR; rw [if_pos hb]; rfl] at hq
    walk_at "ret"
  case b1 =>
  intro hb
  rw [show bndR rs = bnd (fullR rs) by unfold bndR; rw [if_neg (by rw [hb]; decide)]] at hq
  refine g_nextU ?_
  have hfl : (fullR rs).length ≤ 40000 := Nat.le_trans (List.length_filter_le _ _) hl
  have hne : ∀ f : Rc → Int, (fullR rs).map f ≠ [] := fun f z => by
    have := List.map_eq_nil_iff.mp z
    rw [this] at hb
    cases hb
  generalize fullR rs = fs at *
  refine' gs_asg (d := .int (minL (fs.map (·.1)))) (ex_minL (EvF.it (EvF.is ?m1 ?m2)) (hne _)) ?_
  case m1 =>
    refine' ef_lcD (xs := fs) (e := dR) (fun _ => true) (fun r => .int r.1) (ex_var rfl) hfl (fun fr lo up acc r hr' => ⟨_, _, ?m3, tg_tup (tgs_cons tg_name (tgs_cons tg_name (tgs_cons tg_name (tgs_cons tg_name tgs_nil)))) rfl, et_yes, fun _ => ?m5⟩)
    case m3 => walk_at "js"
    case m5 =>
      walk_at "we"
      walk_at "v"
  case m2 => simp [filt_all, List.map_map, Function.comp_def]
  walk_at "nf"
  refine' gs_asg (d := .int (minL (fs.map (·.2.1)))) (ex_minL (EvF.it (EvF.is ?n1 ?n2)) (hne _)) ?_
  case n1 =>
    refine' ef_lcD (xs := fs) (e := dR) (fun _ => true) (fun r => .int r.2.1) (ex_var rfl) hfl (fun fr lo up acc r hr' => ⟨_, _, ?n3, tg_tup (tgs_cons tg_name (tgs_cons tg_name (tgs_cons tg_name (tgs_cons tg_name tgs_nil)))) rfl, et_yes, fun _ => ?n5⟩)
    case n3 => walk_at "js"
    case n5 =>
      walk_at "we"
      walk_at "v"
  case n2 => simp [filt_all, List.map_map, Function.comp_def]
  walk_at "nf"
  refine' gs_asg (d := .int (maxL (fs.map fun r => r.1 + r.2.2.1))) (ex_maxL (EvF.it (EvF.is ?o1 ?o2)) (hne _)) ?_
  case o1 =>
    refine' ef_lcD (xs := fs) (e := dR) (fun _ => true) (fun r => .int (r.1 + r.2.2.1)) (ex_var rfl) hfl (fun fr lo up acc r hr' => ⟨_, _, ?o3, tg_tup (tgs_cons tg_name (tgs_cons tg_name (tgs_cons tg_name (tgs_cons tg_name tgs_nil)))) rfl, et_yes, fun _ => ?o5⟩)
    case o3 => walk_at "js"
    case o5 =>
      walk_at "we"
      walk_at "v"
  case o2 => simp [filt_all, List.map_map, Function.comp_def]
  walk_at "nf"
  refine' gs_asg (d := .int (maxL (fs.map fun r => r.2.1 + r.2.2.2))) (ex_maxL (EvF.it (EvF.is ?p1 ?p2)) (hne _)) ?_
  case p1 =>
    refine' ef_lcD (xs := fs) (e := dR) (fun _ => true) (fun r => .int (r.2.1 + r.2.2.2)) (ex_var rfl) hfl (fun fr lo up acc r hr' => ⟨_, _, ?p3, tg_tup (tgs_cons tg_name (tgs_cons tg_name (tgs_cons tg_name (tgs_cons tg_name tgs_nil)))) rfl, et_yes, fun _ => ?p5⟩)
    case p3 => walk_at "js"
    case p5 =>
      walk_at "we"
      walk_at "v"
  case p2 => simp [filt_all, List.map_map, Function.comp_def]
  walk_at "nf"
  walk_at "ret"
abbrev s__law_cell : Stmt := topS 5
theorem sc__law_cell : FnScope ["script", "k"] ["script", "k"] (defScope s__law_cell) := ⟨rfl, rfl, rfl, by decide +kernel, rfl, by decide +kernel, by decide +kernel⟩
abbrev dI (ns : List Int) : PyData := .list (ns.map PyData.int)
def R__law_cell : List PyData → PyData → Prop := fun ds d => ∃ (ns : List Int) (k : Nat), ds = [dI ns, .int (k : Int)] ∧ d = .int (ns.getD k 0)
theorem R__law_cell_i {ns : List Int} (k : Nat) : R__law_cell [dI ns, .int (k : Int)] (.int (ns.getD k 0)) := ⟨ns, k, rfl, rfl⟩
local macro_rules | `(tactic| walk_at "r2") => `(tactic| first | exact R__law_cell_i 0 | exact R__law_cell_i 1 | exact R__law_cell_i 2 | exact R__law_cell_i 3 | exact R__law_cell_i _)
theorem R__law_cell_len : ∀ ds d, R__law_cell ds d → ds.length = 2 := by
  intro ds d hh
  unfold R__law_cell at hh
  repeat (obtain ⟨_, hh⟩ := hh)
  subst_eqs
  rfl
theorem ok__law_cell {P : Program} {w : World} {K : PySem.W.Frag} {mg : Str → Option Value} {base : Heap} {f : Addr} {fd : FuncData} (F : FnP K "_law_cell" s__law_cell f fd) (g0 : mg "_law_cell" = some (.ref f)) (z_len : mg "len" = none) : Cal P w K mg base 1 "_law_cell" ["script", "k"] (spD K R__law_cell) := by
  refine cal_mk F sc__law_cell g0 (spD_len R__law_cell_len) (fun _ _ _ _ _ _ us hl => match us, hl with | [_, _], _ => rfl) (fun cdv A outer s H vs Q E hr h => ⟨_,
    (pss_cons (ps_if (pt_cmpR op_lt (pv 1) (pe_callB (DL.kLen (K := K)) (by rfl) z_len (by decide +kernel) (pa_cons (pv 0) pa_nil)) (nomark _))
     (pss_cons (ps_ret (pe_ix (DL.kIxL (K := K)) (pv 0) (pv 1) (fun _ _ => rfl)))
     pss_nil)
     pss_nil)
     (pss_cons (ps_ret pe_int)
     pss_nil)), ?_⟩)
  refine run_spD h fun N ds d hR hq => ?_
  obtain ⟨ns, k, rfl, rfl⟩ := hR
  walk_at "env"
  refine' gs_if ?t1 ?a1 ?b1
  case t1 => walk_at "t"
  case a1 =>
    intro hb
    have hk : k < ns.length := by simpa using hb
    refine' gs_ret ?r1 (by assumption)
    refine' ex_ixLD ?va ?vb ?vc
    case va => walk_at "v"
    case vb => walk_at "v"
    case vc => exact atI_nat (by rw [List.getElem?_map, List.getD_eq_getElem?_getD, List.getElem?_eq_getElem hk]; rfl)
  case b1 =>
    intro hb
    have hk : ¬ k < ns.length := by simpa using hb
    refine g_nextU ?_
    have e : ns.getD k 0 = 0 := by rw [List.getD_eq_getElem?_getD, List.getElem?_eq_none (by omega)]; rfl
    rw [e] at hq
    walk_at "ret"
abbrev s__law_mixed : Stmt := topS 6
theorem sc__law_mixed : FnScope ["cell", "once", "twice"] ["cell"] (defScope s__law_mixed) := ⟨rfl, rfl, rfl, by decide +kernel, rfl, by decide +kernel, by decide +kernel⟩
def mixA (c : Int) : Int := (c * 48271 + 12345) % 2147483647
def mixB (a : Int) : Int := (a * a + 7 * a + 3) % 2305843009213693951
def mixed (c : Int) : Int := (mixB (mixA c) * 16807 + 11) % 2305843009213693951
theorem mixed_nn (c : Int) : 0 ≤ mixed c := Int.emod_nonneg _ (by decide)
def R__law_mixed : List PyData → PyData → Prop := fun ds d => ∃ c, ds = [.int c] ∧ d = .int (mixed c)
theorem R__law_mixed_i {c : Int} : R__law_mixed [.int c] (.int (mixed c)) := ⟨c, rfl, rfl⟩
local macro_rules | `(tactic| walk_at "r2") => `(tactic| exact R__law_mixed_i)
theorem R__law_mixed_len : ∀ ds d, R__law_mixed ds d → ds.length = 1 := by
  intro ds d hh
  unfold R__law_mixed at hh
  repeat (obtain ⟨_, hh⟩ := hh)
  subst_eqs
  rfl
theorem ok__law_mixed {P : Program} {w : World} {K : PySem.W.Frag} {mg : Str → Option Value} {base : Heap} {f : Addr} {fd : FuncData} (F : FnP K "_law_mixed" s__law_mixed f fd) (g0 : mg "_law_mixed" = some (.ref f)) (z_int : mg "int" = none) : Cal P w K mg base 1 "_law_mixed" ["cell"] (spD K R__law_mixed) := by
  refine cal_mk F sc__law_mixed g0 (spD_len R__law_mixed_len) (fun _ _ _ _ _ _ us hl => match us, hl with | [_], _ => rfl) (fun cdv A outer s H vs Q E hr h => ⟨_,
    (pss_cons (ps_set (i := 1) sc__law_mixed.nd rfl (by first | exact Or.inl rfl | exact Or.inr rfl) (pe_op op_mod (pe_callTy call_int1 (by rfl) z_int (by decide +kernel) (pa_cons (pe_op op_add (pe_op op_mul (pv 0) pe_int) pe_int) pa_nil)) pe_int))
     (pss_cons (ps_set (i := 2) sc__law_mixed.nd rfl (by first | exact Or.inl rfl | exact Or.inr rfl) (pe_op op_mod (pe_callTy call_int1 (by rfl) z_int (by decide +kernel) (pa_cons (pe_op op_add (pe_op op_add (pe_op op_mul (pv 1) (pv 1)) (pe_op op_mul pe_int (pv 1))) pe_int) pa_nil)) pe_int))
     (pss_cons (ps_ret (pe_op op_mod (pe_callTy call_int1 (by rfl) z_int (by decide +kernel) (pa_cons (pe_op op_add (pe_op op_mul (pv 2) pe_int) pe_int) pa_nil)) pe_int))
     pss_nil))), ?_⟩)
  refine run_spD h fun N ds d hR hq => ?_
  obtain ⟨c, rfl, rfl⟩ := hR
  walk_at "env"
  refine' gs_asg (d := .int (mixA c)) ?va ?_
  case va => walk_at "v"
  walk_at "nf"
  have h1 : 0 ≤ mixA c := Int.emod_nonneg _ (by decide)
  have h2 : mixA c < 2147483647 := Int.emod_lt_of_pos _ (by decide)
  refine' gs_asg (d := .int (mixB (mixA c))) ?vb ?_
  case vb => walk_at "v"
  walk_at "nf"
  walk_at "ret"
abbrev s__law_source : Stmt := topS 7
theorem sc__law_source : FnScope ["cell"] ["cell"] (defScope s__law_source) := ⟨rfl, rfl, rfl, by decide +kernel, rfl, by decide +kernel, by decide +kernel⟩
def source (c : Int) : Int := if 10 ^ 18 ≤ c then c - 10 ^ 18 else mixed c
theorem source_nn (c : Int) : 0 ≤ source c := by
  unfold source
  split
  · omega
  · exact mixed_nn c
def R__law_source : List PyData → PyData → Prop := fun ds d => ∃ c, ds = [.int c] ∧ d = .int (source c)
theorem R__law_source_i {c : Int} : R__law_source [.int c] (.int (source c)) := ⟨c, rfl, rfl⟩
local macro_rules | `(tactic| walk_at "r2") => `(tactic| exact R__law_source_i)
theorem R__law_source_len : ∀ ds d, R__law_source ds d → ds.length = 1 := by
  intro ds d hh
  unfold R__law_source at hh
  repeat (obtain ⟨_, hh⟩ := hh)
  subst_eqs
  rfl
theorem ok__law_source {P : Program} {w : World} {K : PySem.W.Frag} {mg : Str → Option Value} {base : Heap} {f : Addr} {fd : FuncData} (F : FnP K "_law_source" s__law_source f fd) (g0 : mg "_law_source" = some (.ref f)) (h__law_mixed : Cal P w K mg base 1 "_law_mixed" ["cell"] (spD K R__law_mixed)) : Cal P w K mg base 2 "_law_source" ["cell"] (spD K R__law_source) := by
  refine cal_mk F sc__law_source g0 (spD_len R__law_source_len) (fun _ _ _ _ _ _ us hl => match us, hl with | [_], _ => rfl) (fun cdv A outer s H vs Q E hr h => ⟨_,
    (pss_cons (ps_if (pt_cmpR op_ge (pv 0) (pe_op op_pow pe_int pe_int) (nomark _))
     (pss_cons (ps_ret (pe_op op_sub (pv 0) (pe_op op_pow pe_int pe_int)))
     pss_nil)
     pss_nil)
     (pss_cons (ps_ret (DL.pe_cal h__law_mixed hr (by decide) (by rfl) pass0 (pa_cons (pv 0) pa_nil)))
     pss_nil)), ?_⟩)
  refine run_spD h fun N ds d hR hq => ?_
  obtain ⟨c, rfl, rfl⟩ := hR
  walk_at "env"
  refine' gs_if ?t1 ?a1 ?b1
  case t1 => walk_at "t"
  case a1 =>
    intro hb
    have hb' : 10 ^ 18 ≤ c := by simpa using hb
    rw [show source c = c - 10 ^ 18 by unfold source; rw [if_pos hb']] at hq
    walk_at "ret"
  case b1 =>
    intro hb
    have hb' : ¬ 10 ^ 18 ≤ c := by simpa using hb
    rw [show source c = mixed c by unfold source; rw [if_neg hb']] at hq
    refine g_nextU ?_
    walk_at "ret"
abbrev s__law_is_integer : Stmt := topS 8
theorem sc__law_is_integer : FnScope ["value"] ["value"] (defScope s__law_is_integer) := ⟨rfl, rfl, rfl, by decide +kernel, rfl, by decide +kernel, by decide +kernel⟩
def R__law_is_integer : List PyData → PyData → Prop := fun ds d => ∃ i, ds = [.int i] ∧ d = .bool true
theorem R__law_is_integer_i {i : Int} : R__law_is_integer [.int i] (.bool true) := ⟨i, rfl, rfl⟩
local macro_rules | `(tactic| walk_at "r2") => `(tactic| exact R__law_is_integer_i)
theorem R__law_is_integer_len : ∀ ds d, R__law_is_integer ds d → ds.length = 1 := by
  intro ds d hh
  unfold R__law_is_integer at hh
  repeat (obtain ⟨_, hh⟩ := hh)
  subst_eqs
  rfl
theorem ok__law_is_integer {P : Program} {w : World} {K : PySem.W.Frag} {mg : Str → Option Value} {base : Heap} {f : Addr} {fd : FuncData} (F : FnP K "_law_is_integer" s__law_is_integer f fd) (g0 : mg "_law_is_integer" = some (.ref f)) (z_isinstance : mg "isinstance" = none) (z_int : mg "int" = none) (z_bool : mg "bool" = none) : Cal P w K mg base 1 "_law_is_integer" ["value"] (spD K R__law_is_integer) := by
  refine cal_mk F sc__law_is_integer g0 (spD_len R__law_is_integer_len) (fun _ _ _ _ _ _ us hl => match us, hl with | [_], _ => rfl) (fun cdv A outer s H vs Q E hr h => ⟨_,
    (pss_cons (ps_ret (pe_and (pe_callB (DL.kIsi (K := K)) (by rfl) z_isinstance (by decide +kernel) (pa_cons (pv 0) (pa_cons (pe_bltn (v := .ty "int") (u := .type "int") (by rfl) z_int (by decide +kernel) rfl) pa_nil))) (pe_one (pe_not (pe_callB (DL.kIsi (K := K)) (by rfl) z_isinstance (by decide +kernel) (pa_cons (pv 0) (pa_cons (pe_bltn (v := .ty "bool") (u := .type "bool") (by rfl) z_bool (by decide +kernel) rfl) pa_nil)))))))
     pss_nil), ?_⟩)
  refine run_spD h fun N ds d hR hq => ?_
  obtain ⟨i, rfl, rfl⟩ := hR
  walk_at "env"
  walk_at "ret"
abbrev s__law_is_rect : Stmt := topS 9
theorem sc__law_is_rect : FnScope ["value", "number"] ["value"] (defScope s__law_is_rect) := ⟨rfl, rfl, rfl, by decide +kernel, rfl, by decide +kernel, by decide +kernel⟩
def R__law_is_rect : List PyData → PyData → Prop := fun ds d => ∃ x y w h, ds = [T4 x y w h] ∧ d = .bool (decide (0 ≤ w) && decide (0 ≤ h))
theorem R__law_is_rect_i {x y w h : Int} : R__law_is_rect [T4 x y w h] (.bool (decide (0 ≤ w) && decide (0 ≤ h))) := ⟨x, y, w, h, rfl, rfl⟩
local macro_rules | `(tactic| walk_at "r2") => `(tactic| exact R__law_is_rect_i)
theorem R__law_is_rect_len : ∀ ds d, R__law_is_rect ds d → ds.length = 1 := by
  intro ds d hh
  unfold R__law_is_rect at hh
  repeat (obtain ⟨_, hh⟩ := hh)
  subst_eqs
  rfl
theorem ok__law_is_rect {P : Program} {w : World} {K : PySem.W.Frag} {mg : Str → Option Value} {base : Heap} {f : Addr} {fd : FuncData} (F : FnP K "_law_is_rect" s__law_is_rect f fd) (g0 : mg "_law_is_rect" = some (.ref f)) (h__law_is_integer : Cal P w K mg base 1 "_law_is_integer" ["value"] (spD K R__law_is_integer)) (z_isinstance : mg "isinstance" = none) (z_tuple : mg "tuple" = none) (z_len : mg "len" = none) : Cal P w K mg base 2 "_law_is_rect" ["value"] (spD K R__law_is_rect) := by
  refine cal_mk F sc__law_is_rect g0 (spD_len R__law_is_rect_len) (fun _ _ _ _ _ _ us hl => match us, hl with | [_], _ => rfl) (fun cdv A outer s H vs Q E hr h => ⟨_,
    (pss_cons (ps_if (PW.pt (pw_or (pt_not (pt_val (pe_callB (DL.kIsi (K := K)) (by rfl) z_isinstance (by decide +kernel) (pa_cons (pv 0) (pa_cons (pe_bltn (v := .ty "tuple") (u := .type "tuple") (by rfl) z_tuple (by decide +kernel) rfl) pa_nil))))) (pw_or1 (pt_cmpR op_ne (pe_callB (DL.kLen (K := K)) (by rfl) z_len (by decide +kernel) (pa_cons (pv 0) pa_nil)) pe_int (nomark _)))))
     (pss_cons (ps_ret pe_bl)
     pss_nil)
     pss_nil)
     (pss_cons (ps_for PassesOwn.never rfl (DL.kPiT (K := K) (pv 0)) (pg_name (i := 1) sc__law_is_rect.nd rfl (by first | exact Or.inl rfl | exact Or.inr rfl))
     (pss_cons (ps_if (pt_not (pt_val (DL.pe_cal h__law_is_integer hr (by decide) (by rfl) pass0 (pa_cons (pv 1) pa_nil))))
     (pss_cons (ps_ret pe_bl)
     pss_nil)
     pss_nil)
     pss_nil))
     (pss_cons (ps_ret (pe_and (pe_cmpR op_ge (pe_ix (DL.kIxT (K := K)) (pv 0) pe_int (fun _ _ => rfl)) pe_int (nomark _)) (pe_one (pe_cmpR op_ge (pe_ix (DL.kIxT (K := K)) (pv 0) pe_int (fun _ _ => rfl)) pe_int (nomark _)))))
     pss_nil))), ?_⟩)
  refine run_spD h fun N ds d hR hq => ?_
  obtain ⟨x, y, w, h, rfl, rfl⟩ := hR
  walk_at "env"
  walk_at "skip"
  refine gs_forTu (xs := [x, y, w, h]) (f := PyData.int) (fun _ => [some (.i (T4 x y w h)), none]) (fun _ => []) (ex_var rfl) (fun _ _ _ _ _ ok => ok) (fun fr up pre i post hx => ⟨_, _, tg_name, ?_⟩) ?_
  · walk_at "nf"
    walk_at "skip"
    walk_at "wk"
  · walk_at "ret"
abbrev s__law_small : Stmt := topS 10
theorem sc__law_small : FnScope ["number", "x", "y"] ["number"] (defScope s__law_small) := ⟨rfl, rfl, rfl, by decide +kernel, rfl, by decide +kernel, by decide +kernel⟩
def smX (n : Int) : Int := n % 12 - 3
def smY (n : Int) : Int := n / 12 % 12 - 3
def smW (n : Int) : Int := n / 144 % 6
def smH (n : Int) : Int := n / 864 % 6
abbrev smD (n : Int) : PyData := T4 (smX n) (smY n) (smW n) (smH n)
def R__law_small : List PyData → PyData → Prop := fun ds d => ∃ n, ds = [.int n] ∧ d = smD n
theorem R__law_small_i {n : Int} : R__law_small [.int n] (smD n) := ⟨n, rfl, rfl⟩
local macro_rules | `(tactic| walk_at "r2") => `(tactic| exact R__law_small_i)
theorem R__law_small_len : ∀ ds d, R__law_small ds d → ds.length = 1 := by
  intro ds d hh
  unfold R__law_small at hh
  repeat (obtain ⟨_, hh⟩ := hh)
  subst_eqs
  rfl
theorem ok__law_small {P : Program} {w : World} {K : PySem.W.Frag} {mg : Str → Option Value} {base : Heap} {f : Addr} {fd : FuncData} (F : FnP K "_law_small" s__law_small f fd) (g0 : mg "_law_small" = some (.ref f)) (z_int : mg "int" = none) : Cal P w K mg base 1 "_law_small" ["number"] (spD K R__law_small) := by
  refine cal_mk F sc__law_small g0 (spD_len R__law_small_len) (fun _ _ _ _ _ _ us hl => match us, hl with | [_], _ => rfl) (fun cdv A outer s H vs Q E hr h => ⟨_,
    (pss_cons (ps_set (i := 1) sc__law_small.nd rfl (by first | exact Or.inl rfl | exact Or.inr rfl) (pe_op op_sub (pe_op op_mod (pe_callTy call_int1 (by rfl) z_int (by decide +kernel) (pa_cons (pv 0) pa_nil)) pe_int) pe_int))
     (pss_cons (ps_set (i := 2) sc__law_small.nd rfl (by first | exact Or.inl rfl | exact Or.inr rfl) (pe_op op_sub (pe_op op_mod (pe_callTy call_int1 (by rfl) z_int (by decide +kernel) (pa_cons (pe_op op_fdiv (pv 0) pe_int) pa_nil)) pe_int) pe_int))
     (pss_cons (ps_ret (pe_tup (pa_cons (pv 1) (pa_cons (pv 2) (pa_cons (pe_op op_mod (pe_callTy call_int1 (by rfl) z_int (by decide +kernel) (pa_cons (pe_op op_fdiv (pv 0) pe_int) pa_nil)) pe_int) (pa_cons (pe_op op_mod (pe_callTy call_int1 (by rfl) z_int (by decide +kernel) (pa_cons (pe_op op_fdiv (pv 0) pe_int) pa_nil)) pe_int) pa_nil))))))
     pss_nil))), ?_⟩)
  refine run_spD h fun N ds d hR hq => ?_
  obtain ⟨n, rfl, rfl⟩ := hR
  walk_at "env"
  walk_at "set"
  walk_at "nf"
  walk_at "set"
  walk_at "nf"
  walk_at "ret"
abbrev s__law_smalls : Stmt := topS 11
theorem sc__law_smalls : FnScope ["script", "first", "extra", "rects", "cell", "k"] ["script", "first"] (defScope s__law_smalls) := ⟨rfl, rfl, rfl, by decide +kernel, rfl, by decide +kernel, by decide +kernel⟩
def sm (n : Int) : Rc := (smX n, smY n, smW n, smH n)
def smBase (e : Int) : List Rc := ((List.range (e % 9).toNat).map fun i : Nat => sm (mixed (e + 7919 * (i : Int))))
def smTail (ns : List Int) : List Rc := ns.map fun c => sm (source c)
def smalls (ns : List Int) (k : Nat) : List Rc := smBase (source (ns.getD k 0)) ++ smTail (ns.drop (k + 1))
theorem smalls_len {ns : List Int} {k : Nat} (h : ns.length ≤ 63) : (smalls ns k).length ≤ 80 := by
  unfold smalls smBase smTail
  rw [List.length_append, List.length_map, List.length_range, List.length_map, List.length_drop]
  omega
theorem sm_nn (n : Int) : 0 ≤ (sm n).2.2.1 ∧ 0 ≤ (sm n).2.2.2 := ⟨Int.emod_nonneg _ (by decide), Int.emod_nonneg _ (by decide)⟩
theorem smalls_nn {ns : List Int} {k : Nat} : ∀ r ∈ smalls ns k, 0 ≤ r.2.2.1 ∧ 0 ≤ r.2.2.2 := by
  intro r hr
  unfold smalls smBase smTail at hr
  rcases List.mem_append.mp hr with h | h
  · obtain ⟨i, _, rfl⟩ := List.mem_map.mp h
    exact sm_nn _
  · obtain ⟨i, _, rfl⟩ := List.mem_map.mp h
    exact sm_nn _
def R__law_smalls : List PyData → List PyData → Prop := fun ds rs => ∃ (ns : List Int) (k : Nat), ns.length ≤ 63 ∧ k ≤ 10 ∧ ds = [dI ns, .int (k : Int)] ∧ rs = (smalls ns k).map dR
theorem R__law_smalls_i {ns : List Int} (k : Nat) (h : ns.length ≤ 63) (hk : k ≤ 10) : R__law_smalls [dI ns, .int (k : Int)] ((smalls ns k).map dR) := ⟨ns, k, h, hk, rfl, rfl⟩
local macro_rules | `(tactic| walk_at "r2") => `(tactic| first | exact R__law_smalls_i 1 (by assumption) (by decide) | exact R__law_smalls_i 2 (by assumption) (by decide))
theorem R__law_smalls_len : ∀ ds d, R__law_smalls ds d → ds.length = 2 := by
  intro ds d hh
  unfold R__law_smalls at hh
  repeat (obtain ⟨_, hh⟩ := hh)
  subst_eqs
  rfl
theorem ok__law_smalls {P : Program} {w : World} {K : PySem.W.Frag} {mg : Str → Option Value} {base : Heap} {f : Addr} {fd : FuncData} (F : FnP K "_law_smalls" s__law_smalls f fd) (g0 : mg "_law_smalls" = some (.ref f)) (h__law_source : Cal P w K mg base 2 "_law_source" ["cell"] (spD K R__law_source)) (h__law_cell : Cal P w K mg base 1 "_law_cell" ["script", "k"] (spD K R__law_cell)) (h__law_small : Cal P w K mg base 1 "_law_small" ["number"] (spD K R__law_small)) (h__law_mixed : Cal P w K mg base 1 "_law_mixed" ["cell"] (spD K R__law_mixed)) (z_range : mg "range" = none) (z_int : mg "int" = none) : Cal P w K mg base 3 "_law_smalls" ["script", "first"] (spF K R__law_smalls) := by
  refine cal_mk F sc__law_smalls g0 (spF_len R__law_smalls_len) (fun _ _ _ _ _ _ us hl => match us, hl with | [_, _], _ => rfl) (fun cdv A outer s H vs Q E hr h => ⟨_,
    (pss_cons (ps_set (i := 2) sc__law_smalls.nd rfl (by first | exact Or.inl rfl | exact Or.inr rfl) (DL.pe_cal h__law_source hr (by decide) (by rfl) pass0 (pa_cons (DL.pe_cal h__law_cell hr (by decide) (by rfl) pass0 (pa_cons (pv 0) (pa_cons (pv 1) pa_nil))) pa_nil)))
     (pss_cons (ps_setLc (i := 3) (own := [("k", 5)]) (by rfl) sc__law_smalls.nd rfl rfl (sw_true rfl rfl rfl (by decide +kernel)) (pi_range1 (by rfl) z_range (pa_cons (pe_op op_mod (pe_callTy call_int1 (by rfl) z_int (by decide +kernel) (pa_cons (pv 2) pa_nil)) pe_int) pa_nil)) (blkOk_by (own := [("k", 5)]) (N := ["script", "first", "extra", "rects", "cell", "k"]) (sc := defScope s__law_smalls) (by decide +kernel)) (fun _ _ _ _ _ => (pg_name (i := 5) sc__law_smalls.nd rfl (by first | exact Or.inl rfl | exact Or.inr rfl))) (fun _ _ _ _ _ => pts_nil) (fun _ _ _ _ _ => (DL.pe_cal h__law_small hr (by decide) (by rfl) pass0 (pa_cons (DL.pe_cal h__law_mixed hr (by decide) (by rfl) pass0 (pa_cons (pe_op op_add (pv 2) (pe_op op_mul pe_int (pv 5))) pa_nil)) pa_nil))))
     (pss_cons (ps_for PassesOwn.never rfl (DL.kPiL (K := K) (pe_slice (DL.kSlL (K := K)) (pv 0) (po_some (pe_op op_add (pv 1) pe_int)) po_none)) (pg_name (i := 4) sc__law_smalls.nd rfl (by first | exact Or.inl rfl | exact Or.inr rfl))
     (pss_cons (ps_expr (DL.kBm (K := K) (pe_bm PySem.F.plainAttrs_list PySem.F.slot_list_append PySem.F.type_list_append mt_append (pv 3) (pa_cons (DL.pe_cal h__law_small hr (by decide) (by rfl) pass0 (pa_cons (DL.pe_cal h__law_source hr (by decide) (by rfl) pass0 (pa_cons (pv 4) pa_nil)) pa_nil)) pa_nil))))
     pss_nil))
     (pss_cons (ps_ret (pv 3))
     pss_nil)))), ?_⟩)
  refine run_spF h fun N ds d hR hq => ?_
  obtain ⟨ns, k, hl, hk, rfl, rfl⟩ := hR
  walk_at "env"
  walk_at "set"
  walk_at "nf"
  unfold smalls at hq
  generalize source (ns.getD k 0) = e at *
  have he : 0 ≤ e % 9 ∧ e % 9 < 9 := ⟨Int.emod_nonneg _ (by decide), Int.emod_lt_of_pos _ (by decide)⟩
  refine' gs_asgF (o := .lst (((smBase e).map dR).map SV.i)) (EvF.is ?l1 ?l2) ?_
  case l1 =>
    refine' ef_lcR (n := e % 9) (fun _ => true) (fun i => dR (sm (mixed (e + 7919 * (i : Int))))) ?l3 (by omega) (fun fr lo up acc i hi => ⟨_, _, ?l4, tg_name, et_yes, fun _ => ?l5⟩)
    case l3 => walk_at "a"
    case l4 => walk_at "js"
    case l5 =>
      walk_at "we"
      refine' ex_call (ea_cons (ex_call (ea_cons ?l6 ea_nil) R__law_mixed_i) ea_nil) R__law_small_i
      case l6 => walk_at "v"
  case l2 => simp [filt_all, smBase, List.map_map, Function.comp_def]
  walk_at "nf"
  refine gs_forD (xs := ns.drop (k + 1)) (f := PyData.int) (fun pre => [some (.i (dI ns)), some (.i (.int (k : Int))), some (.i (.int e)), some (.r 0), none, none]) (fun pre => [.lst (((smBase e ++ smTail pre).map dR).map SV.i)]) ?m1 ?m2 (fun fr up pre x post hx => ⟨_, _, tg_name, ?_⟩) ?_
  case m1 =>
    refine' EvF.ev (EvF.is (ef_slice (EvX.it (ex_var rfl)) (eo_some (i := ((k + 1 : Nat) : Int)) ?m3) eo_none) ?m4)
    case m3 => refine' EvX.is ?m5 ?m6; (case m5 => walk_at "v"); (case m6 => simp)
    case m4 => rw [cutG_from, ← List.map_drop, ← List.map_drop]
  case m2 =>
    intro c' _ ad σ H ok
    simpa [smTail] using ok
  · walk_at "nf"
    refine' gs_app (er_var rfl (Nat.lt_succ_self 0)) rfl (s := .i (dR (sm (source x)))) ?n1 ?n2 ?_
    case n1 =>
      refine' (show EvX false _ _ _ _ _ from ex_call (ea_cons (ex_call (ea_cons ?n3 ea_nil) R__law_source_i) ea_nil) R__law_small_i)
      case n3 => walk_at "v"
    case n2 =>
      have h1 : pre.length ≤ ns.length := by
        have := congrArg List.length hx
        rw [List.length_drop, List.length_append, List.length_cons] at this
        omega
      simp [smBase, smTail]
      omega
    refine gs_is (os' := [.lst (((smBase e ++ smTail (pre ++ [x])).map dR).map SV.i)]) rfl (by simp [smTail]) ?_
    walk_at "wk"
  · refine' gs_retO (er_var rfl (Nat.lt_succ_self 0)) rfl (fun _ => id) hq
abbrev s__law_frame : Stmt := topS 12
theorem sc__law_frame : FnScope ["cell", "number", "scale", "dx", "dy"] ["cell"] (defScope s__law_frame) := ⟨rfl, rfl, rfl, by decide +kernel, rfl, by decide +kernel, by decide +kernel⟩
abbrev T3 (s a b : Int) : PyData := .tuple [.int s, .int a, .int b]
def frS (n : Int) : Int := ([1, 1, 1, 2, 7, 10 ^ (6 : Int).toNat] : List Int).getD (n % 6).toNat 0
def frX (n : Int) : Int := ([0, 0, -5, 10 ^ (9 : Int).toNat, -10 ^ (12 : Int).toNat] : List Int).getD (n / 6 % 5).toNat 0
def frY (n : Int) : Int := ([0, 0, 11, -10 ^ (9 : Int).toNat, 10 ^ (12 : Int).toNat] : List Int).getD (n / 30 % 5).toNat 0
theorem frS_pos (n : Int) : 1 ≤ frS n ∧ frS n ≤ 1000000 := by
  unfold frS
  have h : n % 6 = 0 ∨ n % 6 = 1 ∨ n % 6 = 2 ∨ n % 6 = 3 ∨ n % 6 = 4 ∨ n % 6 = 5 := by omega
  rcases h with h | h | h | h | h | h <;> rw [h] <;> decide
theorem frX_le (n : Int) : -1000000000000 ≤ frX n ∧ frX n ≤ 1000000000000 := by
  unfold frX
  have h : n / 6 % 5 = 0 ∨ n / 6 % 5 = 1 ∨ n / 6 % 5 = 2 ∨ n / 6 % 5 = 3 ∨ n / 6 % 5 = 4 := by omega
  rcases h with h | h | h | h | h <;> rw [h] <;> decide
theorem frY_le (n : Int) : -1000000000000 ≤ frY n ∧ frY n ≤ 1000000000000 := by
  unfold frY
  have h : n / 30 % 5 = 0 ∨ n / 30 % 5 = 1 ∨ n / 30 % 5 = 2 ∨ n / 30 % 5 = 3 ∨ n / 30 % 5 = 4 := by omega
  rcases h with h | h | h | h | h <;> rw [h] <;> decide
def R__law_frame : List PyData → PyData → Prop := fun ds r => ∃ c, ds = [.int c] ∧ r = T3 (frS (source c)) (frX (source c)) (frY (source c))
theorem R__law_frame_i {c : Int} : R__law_frame [.int c] (T3 (frS (source c)) (frX (source c)) (frY (source c))) := ⟨c, rfl, rfl⟩
local macro_rules | `(tactic| walk_at "r2") => `(tactic| exact R__law_frame_i)
theorem R__law_frame_len : ∀ ds d, R__law_frame ds d → ds.length = 1 := by
  intro ds d hh
  unfold R__law_frame at hh
  repeat (obtain ⟨_, hh⟩ := hh)
  subst_eqs
  rfl
theorem ok__law_frame {P : Program} {w : World} {K : PySem.W.Frag} {mg : Str → Option Value} {base : Heap} {f : Addr} {fd : FuncData} (F : FnP K "_law_frame" s__law_frame f fd) (g0 : mg "_law_frame" = some (.ref f)) (h__law_source : Cal P w K mg base 2 "_law_source" ["cell"] (spD K R__law_source)) (z_int : mg "int" = none) : Cal P w K mg base 3 "_law_frame" ["cell"] (spD K R__law_frame) := by
  refine cal_mk F sc__law_frame g0 (spD_len R__law_frame_len) (fun _ _ _ _ _ _ us hl => match us, hl with | [_], _ => rfl) (fun cdv A outer s H vs Q E hr h => ⟨_,
    (pss_cons (ps_set (i := 1) sc__law_frame.nd rfl (by first | exact Or.inl rfl | exact Or.inr rfl) (DL.pe_cal h__law_source hr (by decide) (by rfl) pass0 (pa_cons (pv 0) pa_nil)))
     (pss_cons (ps_set (i := 2) sc__law_frame.nd rfl (by first | exact Or.inl rfl | exact Or.inr rfl) (pe_ix (DL.kIxL (K := K)) (pe_lst (pa_cons pe_int (pa_cons pe_int (pa_cons pe_int (pa_cons pe_int (pa_cons pe_int (pa_cons (pe_op op_pow pe_int pe_int) pa_nil))))))) (pe_op op_mod (pe_callTy call_int1 (by rfl) z_int (by decide +kernel) (pa_cons (pv 1) pa_nil)) pe_int) (fun _ _ => rfl)))
     (pss_cons (ps_set (i := 3) sc__law_frame.nd rfl (by first | exact Or.inl rfl | exact Or.inr rfl) (pe_ix (DL.kIxL (K := K)) (pe_lst (pa_cons pe_int (pa_cons pe_int (pa_cons (pe_un un_neg pe_int) (pa_cons (pe_op op_pow pe_int pe_int) (pa_cons (pe_un un_neg (pe_op op_pow pe_int pe_int)) pa_nil)))))) (pe_op op_mod (pe_callTy call_int1 (by rfl) z_int (by decide +kernel) (pa_cons (pe_op op_fdiv (pv 1) pe_int) pa_nil)) pe_int) (fun _ _ => rfl)))
     (pss_cons (ps_set (i := 4) sc__law_frame.nd rfl (by first | exact Or.inl rfl | exact Or.inr rfl) (pe_ix (DL.kIxL (K := K)) (pe_lst (pa_cons pe_int (pa_cons pe_int (pa_cons pe_int (pa_cons (pe_un un_neg (pe_op op_pow pe_int pe_int)) (pa_cons (pe_op op_pow pe_int pe_int) pa_nil)))))) (pe_op op_mod (pe_callTy call_int1 (by rfl) z_int (by decide +kernel) (pa_cons (pe_op op_fdiv (pv 1) pe_int) pa_nil)) pe_int) (fun _ _ => rfl)))
     (pss_cons (ps_ret (pe_tup (pa_cons (pv 2) (pa_cons (pv 3) (pa_cons (pv 4) pa_nil)))))
     pss_nil))))), ?_⟩)
  refine run_spD h fun N ds d hR hq => ?_
  obtain ⟨c, rfl, rfl⟩ := hR
  walk_at "env"
  walk_at "set"
  walk_at "nf"
  have s5 : ∀ a : Int, 0 ≤ a % 5 ∧ a % 5 < 5 := fun a => ⟨Int.emod_nonneg a (by decide), Int.emod_lt_of_pos a (by decide)⟩
  have s6 : ∀ a : Int, 0 ≤ a % 6 ∧ a % 6 < 6 := fun a => ⟨Int.emod_nonneg a (by decide), Int.emod_lt_of_pos a (by decide)⟩
  refine' gs_asg (d := .int (frS (source c))) ?va ?_
  case va =>
    refine' ex_tab (ns := [1, 1, 1, 2, 7, 10 ^ (6 : Int).toNat]) (EvF.it (ef_lst (EvA.ss ?p0) (Nat.le_of_ble_eq_true rfl))) ?q0 (s6 _).1 (s6 _).2
    case p0 => walk_at "a"
    case q0 => walk_at "v"
  walk_at "nf"
  refine' gs_asg (d := .int (frX (source c))) ?vb ?_
  case vb =>
    refine' ex_tab (ns := [0, 0, -5, 10 ^ (9 : Int).toNat, -10 ^ (12 : Int).toNat]) (EvF.it (ef_lst (EvA.ss ?p1) (Nat.le_of_ble_eq_true rfl))) ?q1 (s5 _).1 (s5 _).2
    case p1 => walk_at "a"
    case q1 => walk_at "v"
  walk_at "nf"
  refine' gs_asg (d := .int (frY (source c))) ?vc ?_
  case vc =>
    refine' ex_tab (ns := [0, 0, 11, -10 ^ (9 : Int).toNat, 10 ^ (12 : Int).toNat]) (EvF.it (ef_lst (EvA.ss ?p2) (Nat.le_of_ble_eq_true rfl))) ?q2 (s5 _).1 (s5 _).2
    case p2 => walk_at "a"
    case q2 => walk_at "v"
  walk_at "nf"
  walk_at "ret"
abbrev s__law_large : Stmt := topS 13
theorem sc__law_large : FnScope ["rect", "frame", "scale", "dx", "dy"] ["rect", "frame"] (defScope s__law_large) := ⟨rfl, rfl, rfl, by decide +kernel, rfl, by decide +kernel, by decide +kernel⟩
def R__law_large : List PyData → PyData → Prop := fun ds d => ∃ x y w h s a b, 1 ≤ s ∧ s ≤ 1000000 ∧ ds = [T4 x y w h, T3 s a b] ∧ d = T4 (x * s + a) (y * s + b) (w * s) (h * s)
theorem R__law_large_i {x y w h s a b : Int} (h1 : 1 ≤ s) (h2 : s ≤ 1000000) : R__law_large [T4 x y w h, T3 s a b] (T4 (x * s + a) (y * s + b) (w * s) (h * s)) := ⟨x, y, w, h, s, a, b, h1, h2, rfl, rfl⟩
local macro_rules | `(tactic| walk_at "r2") => `(tactic| exact R__law_large_i (by first | assumption | omega) (by first | assumption | omega))
theorem R__law_large_len : ∀ ds d, R__law_large ds d → ds.length = 2 := by
  intro ds d hh
  unfold R__law_large at hh
  repeat (obtain ⟨_, hh⟩ := hh)
  subst_eqs
  rfl
theorem ok__law_large {P : Program} {w : World} {K : PySem.W.Frag} {mg : Str → Option Value} {base : Heap} {f : Addr} {fd : FuncData} (F : FnP K "_law_large" s__law_large f fd) (g0 : mg "_law_large" = some (.ref f)) : Cal P w K mg base 1 "_law_large" ["rect", "frame"] (spD K R__law_large) := by
  refine cal_mk F sc__law_large g0 (spD_len R__law_large_len) (fun _ _ _ _ _ _ us hl => match us, hl with | [_, _], _ => rfl) (fun cdv A outer s H vs Q E hr h => ⟨_,
    (pss_cons (ps_asg (pv 1) (DL.kTup (K := K) (n := 3) rfl (pgs_cons (pg_name (i := 2) sc__law_large.nd rfl (by first | exact Or.inl rfl | exact Or.inr rfl)) (pgs_cons (pg_name (i := 3) sc__law_large.nd rfl (by first | exact Or.inl rfl | exact Or.inr rfl)) (pgs_cons (pg_name (i := 4) sc__law_large.nd rfl (by first | exact Or.inl rfl | exact Or.inr rfl)) pgs_nil)))))
     (pss_cons (ps_ret (pe_tup (pa_cons (pe_op op_add (pe_op op_mul (pe_ix (DL.kIxT (K := K)) (pv 0) pe_int (fun _ _ => rfl)) (pv 2)) (pv 3)) (pa_cons (pe_op op_add (pe_op op_mul (pe_ix (DL.kIxT (K := K)) (pv 0) pe_int (fun _ _ => rfl)) (pv 2)) (pv 4)) (pa_cons (pe_op op_mul (pe_ix (DL.kIxT (K := K)) (pv 0) pe_int (fun _ _ => rfl)) (pv 2)) (pa_cons (pe_op op_mul (pe_ix (DL.kIxT (K := K)) (pv 0) pe_int (fun _ _ => rfl)) (pv 2)) pa_nil))))))
     pss_nil)), ?_⟩)
  refine run_spD h fun N ds d hR hq => ?_
  obtain ⟨x, y, w, h, s, a, b, h1, h2, rfl, rfl⟩ := hR
  walk_at "env"
  walk_at "asg3"
  walk_at "nf"
  walk_at "ret"
abbrev s__law_touches : Stmt := topS 14
theorem sc__law_touches : FnScope ["box", "rects", "left", "top", "right", "bottom", "rect"] ["box", "rects"] (defScope s__law_touches) := ⟨rfl, rfl, rfl, by decide +kernel, rfl, by decide +kernel, by decide +kernel⟩
def touch (b : Rc) (rs : List Rc) : Bool := decide ((0 : Int) < (rs.filter fun r => decide (r.1 = b.1)).length) && (decide ((0 : Int) < (rs.filter fun r => decide (r.2.1 = b.2.1)).length) && (decide ((0 : Int) < (rs.filter fun r => decide (r.1 + r.2.2.1 = b.1 + b.2.2.1)).length) && decide ((0 : Int) < (rs.filter fun r => decide (r.2.1 + r.2.2.2 = b.2.1 + b.2.2.2)).length)))
def R__law_touches : List PyData → PyData → Prop := fun ds d => ∃ (b : Rc) (rs : List Rc), rs.length ≤ 40000 ∧ ds = [dR b, dRs rs] ∧ d = .bool (touch b rs)
theorem R__law_touches_i {b : Rc} {rs : List Rc} (h : rs.length ≤ 40000) : R__law_touches [dR b, dRs rs] (.bool (touch b rs)) := ⟨b, rs, h, rfl, rfl⟩
local macro_rules | `(tactic| walk_at "r2") => `(tactic| exact R__law_touches_i (by first | assumption | omega))
theorem R__law_touches_len : ∀ ds d, R__law_touches ds d → ds.length = 2 := by
  intro ds d hh
  unfold R__law_touches at hh
  repeat (obtain ⟨_, hh⟩ := hh)
  subst_eqs
  rfl
theorem ok__law_touches {P : Program} {w : World} {K : PySem.W.Frag} {mg : Str → Option Value} {base : Heap} {f : Addr} {fd : FuncData} (F : FnP K "_law_touches" s__law_touches f fd) (g0 : mg "_law_touches" = some (.ref f)) (z_len : mg "len" = none) : Cal P w K mg base 1 "_law_touches" ["box", "rects"] (spD K R__law_touches) := by
  refine cal_mk F sc__law_touches g0 (spD_len R__law_touches_len) (fun _ _ _ _ _ _ us hl => match us, hl with | [_, _], _ => rfl) (fun cdv A outer s H vs Q E hr h => ⟨_,
    (pss_cons (ps_setLc (i := 2) (own := [("rect", 6)]) (by rfl) sc__law_touches.nd rfl rfl (sw_true rfl rfl rfl (by decide +kernel)) (DL.kPiL (K := K) (pv 1)) (blkOk_by (own := [("rect", 6)]) (N := ["box", "rects", "left", "top", "right", "bottom", "rect"]) (sc := defScope s__law_touches) (by decide +kernel)) (fun _ _ _ _ _ => (pg_name (i := 6) sc__law_touches.nd rfl (by first | exact Or.inl rfl | exact Or.inr rfl))) (fun _ _ _ _ _ => (pts_one (pt_cmpR op_eq (pe_ix (DL.kIxT (K := K)) (pv 6) pe_int (fun _ _ => rfl)) (pe_ix (DL.kIxT (K := K)) (pv 0) pe_int (fun _ _ => rfl)) (nomark _)))) (fun _ _ _ _ _ => (pv 6)))
     (pss_cons (ps_setLc (i := 3) (own := [("rect", 6)]) (by rfl) sc__law_touches.nd rfl rfl (sw_true rfl rfl rfl (by decide +kernel)) (DL.kPiL (K := K) (pv 1)) (blkOk_by (own := [("rect", 6)]) (N := ["box", "rects", "left", "top", "right", "bottom", "rect"]) (sc := defScope s__law_touches) (by decide +kernel)) (fun _ _ _ _ _ => (pg_name (i := 6) sc__law_touches.nd rfl (by first | exact Or.inl rfl | exact Or.inr rfl))) (fun _ _ _ _ _ => (pts_one (pt_cmpR op_eq (pe_ix (DL.kIxT (K := K)) (pv 6) pe_int (fun _ _ => rfl)) (pe_ix (DL.kIxT (K := K)) (pv 0) pe_int (fun _ _ => rfl)) (nomark _)))) (fun _ _ _ _ _ => (pv 6)))
     (pss_cons (ps_setLc (i := 4) (own := [("rect", 6)]) (by rfl) sc__law_touches.nd rfl rfl (sw_true rfl rfl rfl (by decide +kernel)) (DL.kPiL (K := K) (pv 1)) (blkOk_by (own := [("rect", 6)]) (N := ["box", "rects", "left", "top", "right", "bottom", "rect"]) (sc := defScope s__law_touches) (by decide +kernel)) (fun _ _ _ _ _ => (pg_name (i := 6) sc__law_touches.nd rfl (by first | exact Or.inl rfl | exact Or.inr rfl))) (fun _ _ _ _ _ => (pts_one (pt_cmpR op_eq (pe_op op_add (pe_ix (DL.kIxT (K := K)) (pv 6) pe_int (fun _ _ => rfl)) (pe_ix (DL.kIxT (K := K)) (pv 6) pe_int (fun _ _ => rfl))) (pe_op op_add (pe_ix (DL.kIxT (K := K)) (pv 0) pe_int (fun _ _ => rfl)) (pe_ix (DL.kIxT (K := K)) (pv 0) pe_int (fun _ _ => rfl))) (nomark _)))) (fun _ _ _ _ _ => (pv 6)))
     (pss_cons (ps_setLc (i := 5) (own := [("rect", 6)]) (by rfl) sc__law_touches.nd rfl rfl (sw_true rfl rfl rfl (by decide +kernel)) (DL.kPiL (K := K) (pv 1)) (blkOk_by (own := [("rect", 6)]) (N := ["box", "rects", "left", "top", "right", "bottom", "rect"]) (sc := defScope s__law_touches) (by decide +kernel)) (fun _ _ _ _ _ => (pg_name (i := 6) sc__law_touches.nd rfl (by first | exact Or.inl rfl | exact Or.inr rfl))) (fun _ _ _ _ _ => (pts_one (pt_cmpR op_eq (pe_op op_add (pe_ix (DL.kIxT (K := K)) (pv 6) pe_int (fun _ _ => rfl)) (pe_ix (DL.kIxT (K := K)) (pv 6) pe_int (fun _ _ => rfl))) (pe_op op_add (pe_ix (DL.kIxT (K := K)) (pv 0) pe_int (fun _ _ => rfl)) (pe_ix (DL.kIxT (K := K)) (pv 0) pe_int (fun _ _ => rfl))) (nomark _)))) (fun _ _ _ _ _ => (pv 6)))
     (pss_cons (ps_ret (pe_and (pe_cmpR op_gt (pe_callB (DL.kLen (K := K)) (by rfl) z_len (by decide +kernel) (pa_cons (pv 2) pa_nil)) pe_int (nomark _)) (pe_and (pe_cmpR op_gt (pe_callB (DL.kLen (K := K)) (by rfl) z_len (by decide +kernel) (pa_cons (pv 3) pa_nil)) pe_int (nomark _)) (pe_and (pe_cmpR op_gt (pe_callB (DL.kLen (K := K)) (by rfl) z_len (by decide +kernel) (pa_cons (pv 4) pa_nil)) pe_int (nomark _)) (pe_one (pe_cmpR op_gt (pe_callB (DL.kLen (K := K)) (by rfl) z_len (by decide +kernel) (pa_cons (pv 5) pa_nil)) pe_int (nomark _)))))))
     pss_nil))))), ?_⟩)
  refine run_spD h fun N ds d hR hq => ?_
  obtain ⟨b, rs, hl, rfl, rfl⟩ := hR
  walk_at "env"
  refine' gs_asg (d := dRs (rs.filter fun r => decide (r.1 = b.1))) ?l1 ?_
  case l1 =>
    refine' EvF.ev (ds := (rs.filter fun r => decide (r.1 = b.1)).map dR) ?_
    refine' ef_lcD (xs := rs) (e := dR) (fun r => decide (r.1 = b.1)) dR (ex_var rfl) hl (fun fr lo up acc r hr' => ⟨_, _, ?m1, tg_name, ?m2, fun _ => ?m3⟩)
    case m1 => walk_at "js"
    case m2 => walk_at "we"; walk_at "t"
    case m3 => walk_at "we"; walk_at "v"
  walk_at "nf"
  refine' gs_asg (d := dRs (rs.filter fun r => decide (r.2.1 = b.2.1))) ?l2 ?_
  case l2 =>
    refine' EvF.ev (ds := (rs.filter fun r => decide (r.2.1 = b.2.1)).map dR) ?_
    refine' ef_lcD (xs := rs) (e := dR) (fun r => decide (r.2.1 = b.2.1)) dR (ex_var rfl) hl (fun fr lo up acc r hr' => ⟨_, _, ?n1, tg_name, ?n2, fun _ => ?n3⟩)
    case n1 => walk_at "js"
    case n2 => walk_at "we"; walk_at "t"
    case n3 => walk_at "we"; walk_at "v"
  walk_at "nf"
  refine' gs_asg (d := dRs (rs.filter fun r => decide (r.1 + r.2.2.1 = b.1 + b.2.2.1))) ?l3 ?_
  case l3 =>
    refine' EvF.ev (ds := (rs.filter fun r => decide (r.1 + r.2.2.1 = b.1 + b.2.2.1)).map dR) ?_
    refine' ef_lcD (xs := rs) (e := dR) (fun r => decide (r.1 + r.2.2.1 = b.1 + b.2.2.1)) dR (ex_var rfl) hl (fun fr lo up acc r hr' => ⟨_, _, ?o1, tg_name, ?o2, fun _ => ?o3⟩)
    case o1 => walk_at "js"
    case o2 => walk_at "we"; walk_at "t"
    case o3 => walk_at "we"; walk_at "v"
  walk_at "nf"
  refine' gs_asg (d := dRs (rs.filter fun r => decide (r.2.1 + r.2.2.2 = b.2.1 + b.2.2.2))) ?l4 ?_
  case l4 =>
    refine' EvF.ev (ds := (rs.filter fun r => decide (r.2.1 + r.2.2.2 = b.2.1 + b.2.2.2)).map dR) ?_
    refine' ef_lcD (xs := rs) (e := dR) (fun r => decide (r.2.1 + r.2.2.2 = b.2.1 + b.2.2.2)) dR (ex_var rfl) hl (fun fr lo up acc r hr' => ⟨_, _, ?p1, tg_name, ?p2, fun _ => ?p3⟩)
    case p1 => walk_at "js"
    case p2 => walk_at "we"; walk_at "t"
    case p3 => walk_at "we"; walk_at "v"
  walk_at "nf"
  refine' gs_ret (EvX.is ?va ?vb) hq
  case va => walk_at "v"
  case vb => simp only [touch, List.length_map]
abbrev s__law_inside : Stmt := topS 15
theorem sc__law_inside : FnScope ["rect", "box"] ["rect", "box"] (defScope s__law_inside) := ⟨rfl, rfl, rfl, by decide +kernel, rfl, by decide +kernel, by decide +kernel⟩
def insideB (r b : Rc) : Bool := !(decide (r.1 < b.1) || decide (r.2.1 < b.2.1)) && (decide (r.1 + r.2.2.1 ≤ b.1 + b.2.2.1) && decide (r.2.1 + r.2.2.2 ≤ b.2.1 + b.2.2.2))
def R__law_inside : List PyData → PyData → Prop := fun ds d => ∃ r b : Rc, ds = [dR r, dR b] ∧ d = .bool (insideB r b)
theorem R__law_inside_i {r b : Rc} : R__law_inside [dR r, dR b] (.bool (insideB r b)) := ⟨r, b, rfl, rfl⟩
local macro_rules | `(tactic| walk_at "r2") => `(tactic| exact R__law_inside_i)
theorem R__law_inside_len : ∀ ds d, R__law_inside ds d → ds.length = 2 := by
  intro ds d hh
  unfold R__law_inside at hh
  repeat (obtain ⟨_, hh⟩ := hh)
  subst_eqs
  rfl
theorem ok__law_inside {P : Program} {w : World} {K : PySem.W.Frag} {mg : Str → Option Value} {base : Heap} {f : Addr} {fd : FuncData} (F : FnP K "_law_inside" s__law_inside f fd) (g0 : mg "_law_inside" = some (.ref f)) : Cal P w K mg base 1 "_law_inside" ["rect", "box"] (spD K R__law_inside) := by
  refine cal_mk F sc__law_inside g0 (spD_len R__law_inside_len) (fun _ _ _ _ _ _ us hl => match us, hl with | [_, _], _ => rfl) (fun cdv A outer s H vs Q E hr h => ⟨_,
    (pss_cons (ps_if (PW.pt (pw_or (pt_cmpR op_lt (pe_ix (DL.kIxT (K := K)) (pv 0) pe_int (fun _ _ => rfl)) (pe_ix (DL.kIxT (K := K)) (pv 1) pe_int (fun _ _ => rfl)) (nomark _)) (pw_or1 (pt_cmpR op_lt (pe_ix (DL.kIxT (K := K)) (pv 0) pe_int (fun _ _ => rfl)) (pe_ix (DL.kIxT (K := K)) (pv 1) pe_int (fun _ _ => rfl)) (nomark _)))))
     (pss_cons (ps_ret pe_bl)
     pss_nil)
     pss_nil)
     (pss_cons (ps_ret (pe_and (pe_cmpR op_le (pe_op op_add (pe_ix (DL.kIxT (K := K)) (pv 0) pe_int (fun _ _ => rfl)) (pe_ix (DL.kIxT (K := K)) (pv 0) pe_int (fun _ _ => rfl))) (pe_op op_add (pe_ix (DL.kIxT (K := K)) (pv 1) pe_int (fun _ _ => rfl)) (pe_ix (DL.kIxT (K := K)) (pv 1) pe_int (fun _ _ => rfl))) (nomark _)) (pe_one (pe_cmpR op_le (pe_op op_add (pe_ix (DL.kIxT (K := K)) (pv 0) pe_int (fun _ _ => rfl)) (pe_ix (DL.kIxT (K := K)) (pv 0) pe_int (fun _ _ => rfl))) (pe_op op_add (pe_ix (DL.kIxT (K := K)) (pv 1) pe_int (fun _ _ => rfl)) (pe_ix (DL.kIxT (K := K)) (pv 1) pe_int (fun _ _ => rfl))) (nomark _)))))
     pss_nil)), ?_⟩)
  refine run_spD h fun N ds d hR hq => ?_
  obtain ⟨r, b, rfl, rfl⟩ := hR
  walk_at "env"
  refine' gs_if (b := decide (r.1 < b.1) || decide (r.2.1 < b.2.1)) ?t1 ?a1 ?b1
  case t1 => walk_at "t"
  case a1 =>
    intro hb
    refine' gs_ret (EvX.is ?va ?vb) hq
    case va => walk_at "v"
    case vb => unfold insideB; rw [hb]; rfl
  case b1 =>
    intro hb
    refine g_nextU ?_
    refine' gs_ret (EvX.is ?vc ?vd) hq
    case vc => walk_at "v"
    case vd => unfold insideB; rw [hb]; rfl
abbrev s_law : Stmt := topS 16
theorem sc_law : FnScope ["script", "frame", "rects", "number", "far", "handed", "box", "full", "rect"] ["script"] (defScope s_law) := ⟨rfl, rfl, rfl, by decide +kernel, rfl, by decide +kernel, by decide +kernel⟩
def lg (s a b : Int) (r : Rc) : Rc := (r.1 * s + a, r.2.1 * s + b, r.2.2.1 * s, r.2.2.2 * s)
theorem lg_i {s a b : Int} (h1 : 1 ≤ s) (h2 : s ≤ 1000000) (r : Rc) : R__law_large [dR r, T3 s a b] (dR (lg s a b r)) := ⟨_, _, _, _, _, _, _, h1, h2, rfl, rfl⟩
def Good (rs : List Rc) : Prop := ∀ r ∈ rs, 0 ≤ r.2.2.1 ∧ 0 ≤ r.2.2.2
theorem lg_good {ns : List Int} {k : Nat} {s a b : Int} (h : 1 ≤ s) : Good ((smalls ns k).map (lg s a b)) := by
  intro r hr
  obtain ⟨q, hq, rfl⟩ := List.mem_map.mp hr
  obtain ⟨h1, h2⟩ := smalls_nn q hq
  exact ⟨Int.mul_nonneg h1 (by omega), Int.mul_nonneg h2 (by omega)⟩
def fullL (rs : List Rc) : List Rc := rs.filter fun r => decide (0 < r.2.2.1) && decide (0 < r.2.2.2)
theorem fullL_eq (rs : List Rc) : fullL rs = fullR rs := by
  unfold fullL fullR emptyR
  congr 1
  funext r
  rw [Bool.eq_iff_iff]
  simp
theorem bnd_ok {fs : List Rc} (hg : ∀ r ∈ fs, 0 < r.2.2.1 ∧ 0 < r.2.2.2) (hne : fs ≠ []) : 0 ≤ (bnd fs).2.2.1 ∧ 0 ≤ (bnd fs).2.2.2 ∧ (∀ r ∈ fs, insideB r (bnd fs) = true) ∧ touch (bnd fs) fs = true := by
  have m1 := minL_spec (xs := fs.map (·.1)) (by simpa using hne)
  have m2 := minL_spec (xs := fs.map (·.2.1)) (by simpa using hne)
  have m3 := maxL_spec (xs := fs.map fun r => r.1 + r.2.2.1) (by simpa using hne)
  have m4 := maxL_spec (xs := fs.map fun r => r.2.1 + r.2.2.2) (by simpa using hne)
  obtain ⟨a1, b1⟩ := m1
  obtain ⟨a2, b2⟩ := m2
  obtain ⟨a3, b3⟩ := m3
  obtain ⟨a4, b4⟩ := m4
  have c1 : ∀ r ∈ fs, minL (fs.map (·.1)) ≤ r.1 := fun r hr => b1 _ (List.mem_map.mpr ⟨r, hr, rfl⟩)
  have c2 : ∀ r ∈ fs, minL (fs.map (·.2.1)) ≤ r.2.1 := fun r hr => b2 _ (List.mem_map.mpr ⟨r, hr, rfl⟩)
  have c3 : ∀ r ∈ fs, r.1 + r.2.2.1 ≤ maxL (fs.map fun r => r.1 + r.2.2.1) := fun r hr => b3 _ (List.mem_map.mpr ⟨r, hr, rfl⟩)
  have c4 : ∀ r ∈ fs, r.2.1 + r.2.2.2 ≤ maxL (fs.map fun r => r.2.1 + r.2.2.2) := fun r hr => b4 _ (List.mem_map.mpr ⟨r, hr, rfl⟩)
  obtain ⟨r1, hr1, e1⟩ := List.mem_map.mp a1
  obtain ⟨r2, hr2, e2⟩ := List.mem_map.mp a2
  obtain ⟨r3, hr3, e3⟩ := List.mem_map.mp a3
  obtain ⟨r4, hr4, e4⟩ := List.mem_map.mp a4
  have g1 := hg r1 hr1
  have g2 := hg r2 hr2
  have d1 := c3 r1 hr1
  have d2 := c4 r2 hr2
  unfold bnd
  simp only at *
  refine ⟨by omega, by omega, fun r hr => ?_, ?_⟩
  · have := c1 r hr
    have := c2 r hr
    have := c3 r hr
    have := c4 r hr
    unfold insideB
    simp only [Bool.and_eq_true, Bool.not_eq_true', Bool.or_eq_false_iff, decide_eq_true_eq, decide_eq_false_iff_not]
    omega
  · have pos : ∀ (p : Rc → Bool) (r : Rc), r ∈ fs → p r = true → decide ((0 : Int) < (fs.filter p).length) = true := fun p r hr hp => by
      have : 0 < (fs.filter p).length := List.length_pos_of_mem (List.mem_filter.mpr ⟨hr, hp⟩)
      exact decide_eq_true (by omega)
    unfold touch
    rw [pos _ r1 hr1 (decide_eq_true e1), pos _ r2 hr2 (decide_eq_true e2), pos _ r3 hr3 (decide_eq_true (by simp only; omega)), pos _ r4 hr4 (decide_eq_true (by simp only; omega))]
    rfl
def farL : List PyData := [T4 (-(10 ^ (15 : Int).toNat)) 4 0 9, T4 3 (10 ^ (15 : Int).toNat) 9 0, T4 (10 ^ (15 : Int).toNat) (-(10 ^ (15 : Int).toNat)) 0 0]
theorem far_any {i : Int} (h0 : 0 ≤ i) (h1 : i < 3) : ∃ r : Rc, farL.getD i.toNat .none = dR r ∧ 0 ≤ r.2.2.1 ∧ 0 ≤ r.2.2.2 := by
  have h : i = 0 ∨ i = 1 ∨ i = 2 := by omega
  rcases h with rfl | rfl | rfl
  · exact ⟨(-(10 ^ (15 : Int).toNat), 4, 0, 9), rfl, by decide, by decide⟩
  · exact ⟨(3, 10 ^ (15 : Int).toNat, 9, 0), rfl, by decide, by decide⟩
  · exact ⟨(10 ^ (15 : Int).toNat, -(10 ^ (15 : Int).toNat), 0, 0), rfl, by decide, by decide⟩
theorem good_ins {rs : List Rc} {r : Rc} (i : Nat) (h : Good rs) (hr : 0 ≤ r.2.2.1 ∧ 0 ≤ r.2.2.2) : Good (rs.take i ++ [r] ++ rs.drop i) := by
  intro q hq
  rcases List.mem_append.mp hq with z | z
  · rcases List.mem_append.mp z with z | z
    · exact h q (List.mem_of_mem_take z)
    · rw [List.mem_singleton.mp z]; exact hr
  · exact h q (List.mem_of_mem_drop z)
theorem ok_law {P : Program} {w : World} {K : PySem.W.Frag} {mg : Str → Option Value} {base : Heap} {f : Addr} {fd : FuncData} (F : FnP K "law" s_law f fd) (h__law_frame : Cal P w K mg base 3 "_law_frame" ["cell"] (spD K R__law_frame)) (h_bounding : Cal P w K mg base 2 "bounding" ["rects"] (spD K R_bounding)) (h__law_touches : Cal P w K mg base 1 "_law_touches" ["box", "rects"] (spD K R__law_touches)) (h__law_cell : Cal P w K mg base 1 "_law_cell" ["script", "k"] (spD K R__law_cell)) (h__law_large : Cal P w K mg base 1 "_law_large" ["rect", "frame"] (spD K R__law_large)) (h__law_source : Cal P w K mg base 2 "_law_source" ["cell"] (spD K R__law_source)) (h__law_smalls : Cal P w K mg base 3 "_law_smalls" ["script", "first"] (spF K R__law_smalls)) (h__law_is_rect : Cal P w K mg base 2 "_law_is_rect" ["value"] (spD K R__law_is_rect)) (h__law_inside : Cal P w K mg base 1 "_law_inside" ["rect", "box"] (spD K R__law_inside)) (z_list : mg "list" = none) (z_len : mg "len" = none) (z_int : mg "int" = none) : FnOk P w K mg base CX0 4 f fd ["script"] (spD K RLaw) := by
  refine fnok_mk F sc_law (spD_len RLaw_len) (fun cdv A outer s H vs Q E hr h => ⟨_,
    (pss_cons (ps_set (i := 1) sc_law.nd rfl (by first | exact Or.inl rfl | exact Or.inr rfl) (DL.pe_cal h__law_frame hr (by decide) (by rfl) pass0 (pa_cons (DL.pe_cal h__law_cell hr (by decide) (by rfl) pass0 (pa_cons (pv 0) (pa_cons pe_int pa_nil))) pa_nil)))
     (pss_cons (ps_setLc (i := 2) (own := [("rect", 8)]) (by rfl) sc_law.nd rfl rfl (sw_true rfl rfl rfl (by decide +kernel)) (DL.kPiL (K := K) (DL.pe_cal h__law_smalls hr (by decide) (by rfl) pass0 (pa_cons (pv 0) (pa_cons pe_int pa_nil)))) (blkOk_by (own := [("rect", 8)]) (N := ["script", "frame", "rects", "number", "far", "handed", "box", "full", "rect"]) (sc := defScope s_law) (by decide +kernel)) (fun _ _ _ _ _ => (pg_name (i := 8) sc_law.nd rfl (by first | exact Or.inl rfl | exact Or.inr rfl))) (fun _ _ _ _ _ => pts_nil) (fun _ _ _ _ _ => (DL.pe_cal h__law_large hr (by decide) (by rfl) pass0 (pa_cons (pv 8) (pa_cons (pv 1) pa_nil)))))
     (pss_cons (ps_set (i := 3) sc_law.nd rfl (by first | exact Or.inl rfl | exact Or.inr rfl) (pe_op op_fdiv (DL.pe_cal h__law_source hr (by decide) (by rfl) pass0 (pa_cons (DL.pe_cal h__law_cell hr (by decide) (by rfl) pass0 (pa_cons (pv 0) (pa_cons pe_int pa_nil))) pa_nil)) pe_int))
     (pss_cons (ps_if (pt_cmpR op_eq (pe_op op_mod (pe_callTy call_int1 (by rfl) z_int (by decide +kernel) (pa_cons (pv 3) pa_nil)) pe_int) pe_int (nomark _))
     (pss_cons (ps_set (i := 4) sc_law.nd rfl (by first | exact Or.inl rfl | exact Or.inr rfl) (pe_ix (DL.kIxL (K := K)) (pe_lst (pa_cons (pe_tup (pa_cons (pe_un un_neg (pe_op op_pow pe_int pe_int)) (pa_cons pe_int (pa_cons pe_int (pa_cons pe_int pa_nil))))) (pa_cons (pe_tup (pa_cons pe_int (pa_cons (pe_op op_pow pe_int pe_int) (pa_cons pe_int (pa_cons pe_int pa_nil))))) (pa_cons (pe_tup (pa_cons (pe_op op_pow pe_int pe_int) (pa_cons (pe_un un_neg (pe_op op_pow pe_int pe_int)) (pa_cons pe_int (pa_cons pe_int pa_nil))))) pa_nil)))) (pe_op op_mod (pe_callTy call_int1 (by rfl) z_int (by decide +kernel) (pa_cons (pe_op op_fdiv (pv 3) pe_int) pa_nil)) pe_int) (fun _ _ => rfl)))
     (pss_cons (ps_expr (DL.kBm (K := K) (pe_bm PySem.F.plainAttrs_list PySem.F.slot_list_insert PySem.F.type_list_insert mt_insert (pv 2) (pa_cons (pe_op op_mod (pe_callTy call_int1 (by rfl) z_int (by decide +kernel) (pa_cons (pe_op op_fdiv (pv 3) pe_int) pa_nil)) (pe_op op_add (pe_callB (DL.kLen (K := K)) (by rfl) z_len (by decide +kernel) (pa_cons (pv 2) pa_nil)) pe_int)) (pa_cons (pv 4) pa_nil)))))
     pss_nil))
     pss_nil)
     (pss_cons (ps_set (i := 5) sc_law.nd rfl (by first | exact Or.inl rfl | exact Or.inr rfl) (pe_callTy (DL.kList (K := K)) (by rfl) z_list (by decide +kernel) (pa_cons (pv 2) pa_nil)))
     (pss_cons (ps_set (i := 6) sc_law.nd rfl (by first | exact Or.inl rfl | exact Or.inr rfl) (DL.pe_cal h_bounding hr (by decide) (by rfl) pass0 (pa_cons (pv 5) pa_nil)))
     (pss_cons (ps_if (PW.pt (pw_or (pt_not (pt_val (DL.pe_cal h__law_is_rect hr (by decide) (by rfl) pass0 (pa_cons (pv 6) pa_nil)))) (pw_or1 (pt_cmpR (DL.kNeD (K := K) hr.units) (pv 5) (pv 2) (nomark _)))))
     (pss_cons (ps_ret pe_bl)
     pss_nil)
     pss_nil)
     (pss_cons (ps_setLc (i := 7) (own := [("rect", 8)]) (by rfl) sc_law.nd rfl rfl (sw_true rfl rfl rfl (by decide +kernel)) (DL.kPiL (K := K) (pv 2)) (blkOk_by (own := [("rect", 8)]) (N := ["script", "frame", "rects", "number", "far", "handed", "box", "full", "rect"]) (sc := defScope s_law) (by decide +kernel)) (fun _ _ _ _ _ => (pg_name (i := 8) sc_law.nd rfl (by first | exact Or.inl rfl | exact Or.inr rfl))) (fun _ _ _ _ _ => (pts_one (PW.pt (pw_and (pt_cmpR op_gt (pe_ix (DL.kIxT (K := K)) (pv 8) pe_int (fun _ _ => rfl)) pe_int (nomark _)) (pw_and1 (pt_cmpR op_gt (pe_ix (DL.kIxT (K := K)) (pv 8) pe_int (fun _ _ => rfl)) pe_int (nomark _))))))) (fun _ _ _ _ _ => (pv 8)))
     (pss_cons (ps_if (pt_cmpR op_eq (pe_callB (DL.kLen (K := K)) (by rfl) z_len (by decide +kernel) (pa_cons (pv 7) pa_nil)) pe_int (nomark _))
     (pss_cons (ps_ret (pe_cmpR (DL.kEqD (K := K) hr.units) (pv 6) (pe_tup (pa_cons pe_int (pa_cons pe_int (pa_cons pe_int (pa_cons pe_int pa_nil))))) (nomark _)))
     pss_nil)
     pss_nil)
     (pss_cons (ps_for PassesOwn.never rfl (DL.kPiL (K := K) (pv 7)) (pg_name (i := 8) sc_law.nd rfl (by first | exact Or.inl rfl | exact Or.inr rfl))
     (pss_cons (ps_if (pt_not (pt_val (DL.pe_cal h__law_inside hr (by decide) (by rfl) pass0 (pa_cons (pv 8) (pa_cons (pv 6) pa_nil)))))
     (pss_cons (ps_ret pe_bl)
     pss_nil)
     pss_nil)
     pss_nil))
     (pss_cons (ps_ret (DL.pe_cal h__law_touches hr (by decide) (by rfl) pass0 (pa_cons (pv 6) (pa_cons (pv 7) pa_nil))))
     pss_nil))))))))))), ?_⟩)
  refine run_spD h fun N ds d hR hq => ?_
  obtain ⟨ns, hl, rfl, rfl⟩ := hR
  walk_at "env"
  have hs := frS_pos (source (ns.getD 0 0))
  walk_at "set"
  walk_at "nf"
  generalize frS (source (ns.getD 0 0)) = fs at hs
  generalize frX (source (ns.getD 0 0)) = fx
  generalize frY (source (ns.getD 0 0)) = fy
  obtain ⟨s1, s2⟩ := hs
  have gb : Good ((smalls ns 1).map (lg fs fx fy)) := lg_good s1
  have lb : ((smalls ns 1).map (lg fs fx fy)).length ≤ 80 := by rw [List.length_map]; exact smalls_len hl
  refine' gs_asgF (o := .lst ((((smalls ns 1).map (lg fs fx fy)).map dR).map SV.i)) (EvF.is ?l1 ?l2) ?_
  case l1 =>
    refine' ef_lcD (xs := smalls ns 1) (e := dR) (fun _ => true) (fun r => dR (lg fs fx fy r)) (EvF.ev ?l3) (Nat.le_trans (smalls_len hl) (by decide)) (fun fr lo up acc r hr => ⟨_, _, ?l4, tg_name, et_yes, fun _ => ?l5⟩)
    case l3 => walk_at "f"
    case l4 => walk_at "js"
    case l5 =>
      walk_at "we"
      refine' ex_call (ea_cons ?l6 (ea_cons ?l7 ea_nil)) (lg_i s1 s2 r)
      case l6 => walk_at "v"
      case l7 => walk_at "v"
  case l2 => simp [filt_all, List.map_map, Function.comp_def]
  walk_at "nf"
  generalize (smalls ns 1).map (lg fs fx fy) = base at *
  walk_at "set"
  walk_at "nf"
  generalize source (ns.getD 0 0) / 150 = m
  have s3 : 0 ≤ m / 2 % 3 ∧ m / 2 % 3 < 3 := ⟨Int.emod_nonneg _ (by decide), Int.emod_lt_of_pos _ (by decide)⟩
  obtain ⟨far, ef, hf⟩ := far_any s3.1 s3.2
  have si : 0 ≤ m / 6 % ((base.length : Int) + 1) ∧ m / 6 % ((base.length : Int) + 1) < (base.length : Int) + 1 := ⟨Int.emod_nonneg _ (by omega), Int.emod_lt_of_pos _ (by omega)⟩
  obtain ⟨rs, ers, gr, lr⟩ : ∃ rs : List Rc, (if m % 2 = 1 then base.take (m / 6 % ((base.length : Int) + 1)).toNat ++ [far] ++ base.drop (m / 6 % ((base.length : Int) + 1)).toNat else base) = rs ∧ Good rs ∧ rs.length ≤ 40000 := by
    refine ⟨_, rfl, ?_, ?_⟩
    · split
      · exact good_ins _ gb hf
      · exact gb
    · split
      · rw [List.length_append, List.length_append, List.length_take, List.length_drop, List.length_singleton]
        omega
      · omega
  refine gs_ifJ [some (.i (dI ns)), some (.i (T3 fs fx fy)), some (.r 0), some (.i (.int m)), none, none, none, none, none] [.lst ((rs.map dR).map SV.i)] (b := decide (m % 2 = 1)) ?t1 ?k1 ?a1 ?b1
  case t1 => walk_at "t"
  case a1 =>
    intro hb k
    rw [if_pos (of_decide_eq_true hb)] at ers
    refine' gs_asg (d := dR far) (EvX.is ?f1 ef) ?_
    case f1 =>
      refine' ex_tabD (ds := farL) (EvF.it (ef_lst (EvA.ss (ds := farL) ?f2) (Nat.le_of_ble_eq_true rfl))) ?f3 s3.1 s3.2
      case f2 =>
        unfold farL
        walk_at "a"
      case f3 => walk_at "v"
    walk_at "nf"
    refine' gs_ins (d := dR far) (i := m / 6 % ((base.length : Int) + 1)) rfl (er_var rfl (Nat.lt_succ_self 0)) rfl ?i1 ?i2 ?i3 si.1 (by omega) ?_
    case i1 =>
      refine' ex_i2c ?i4 ?i5 ?i6
      case i4 => walk_at "v"
      case i5 =>
        refine' ex_i2 (EvX.is (ex_lenK (EvR.it (er_var rfl (Nat.lt_succ_self 0)) rfl)) ?i7) ex_int
        case i7 => rw [List.length_map, List.length_map]
      case i6 => omega
    case i2 => walk_at "v"
    case i3 => rw [List.length_map, List.length_map]; omega
    refine gs_weak (env' := [some (.i (dI ns)), some (.i (T3 fs fx fy)), some (.r 0), some (.i (.int m)), none, none, none, none, none]) (by simp [WkE]) (WkO.refl _) (by simp [EnLt, SvLt]) ?_ (by simp) ?_
    · refine ⟨?_, True.intro⟩
      intro s hs
      simp only [List.mem_append, List.mem_singleton, ← List.map_take, ← List.map_drop, List.mem_map] at hs
      rcases hs with (⟨d, _, rfl⟩ | rfl) | ⟨d, _, rfl⟩ <;> exact True.intro
    · refine g_nextU (gs_is rfl ?_ k)
      rw [← ers]
      simp only [List.map_append, List.map_take, List.map_drop, List.map_cons, List.map_nil]
      rfl
  case b1 =>
    intro hb k
    rw [if_neg (of_decide_eq_false hb)] at ers
    refine g_nextU ?_
    rw [← ers] at k
    exact k
  case k1 =>
  refine gs_own (i := 2) (k := 0) rfl rfl ?_
  walk_at "nf"
  refine' gs_asg (d := dRs rs) (EvF.ev (ds := rs.map dR) (ef_listK (EvX.it (ex_var rfl)))) ?_
  walk_at "nf"
  walk_at "set"
  walk_at "nf"
  have hsh := shaped_dRs rs
  have hfe := fullL_eq rs
  have hfg : ∀ r ∈ fullR rs, 0 < r.2.2.1 ∧ 0 < r.2.2.2 := fun r hr => by
    rw [← hfe] at hr
    have := (List.mem_filter.mp hr).2
    simpa using this
  have hlen : (fullR rs).length ≤ 40000 := Nat.le_trans (List.length_filter_le _ _) lr
  have hbox : 0 ≤ (bndR rs).2.2.1 ∧ 0 ≤ (bndR rs).2.2.2 := by
    unfold bndR
    split
    · exact ⟨by decide, by decide⟩
    · rename_i hn
      have := bnd_ok hfg (by intro z; rw [z] at hn; exact hn rfl)
      exact ⟨this.1, this.2.1⟩
  refine' gs_if (b := false) (EvT.is ?t2 ?e2) (fun hb => nomatch hb) (fun _ => g_nextU ?_)
  case t2 => walk_at "t"
  case e2 =>
    rw [eqv_self hsh, decide_eq_true hbox.1, decide_eq_true hbox.2]
    rfl
  refine' gs_asg (d := dRs (fullL rs)) ?c1 ?_
  case c1 =>
    refine' EvF.ev (ds := (fullL rs).map dR) ?_
    refine' ef_lcD (xs := rs) (e := dR) (fun r => decide (0 < r.2.2.1) && decide (0 < r.2.2.2)) dR (ex_var rfl) lr (fun fr lo up acc r hr' => ⟨_, _, ?m1, tg_name, ?m2, fun _ => ?m3⟩)
    case m1 => walk_at "js"
    case m2 => walk_at "we"; walk_at "t"
    case m3 => walk_at "we"; walk_at "v"
  walk_at "nf"
  rw [hfe]
  refine' gs_if (b := decide ((fullR rs).length = 0)) (EvT.is ?t3 ?e3) ?a3 ?b3
  case t3 => walk_at "t"
  case e3 =>
    rw [List.length_map, List.length_map]
    by_cases z : (fullR rs).length = 0
    · rw [z]; rfl
    · rw [decide_eq_false z, decide_eq_false (by omega)]
  case a3 =>
    intro hb
    have hz : (fullR rs).length = 0 := of_decide_eq_true hb
    have hz2 : bndR rs = (0, 0, 0, 0) := by
      unfold bndR
      rw [if_pos (by rw [List.length_eq_zero_iff.mp hz]; rfl)]
    refine' gs_ret (EvX.is ?va ?vb) hq
    case va => walk_at "v"
    case vb =>
      rw [hz2]
      exact congrArg PyData.bool (eqv_self_T4 0 0 0 0)
  case b3 =>
    intro hb
    have hz : ¬ (fullR rs).length = 0 := of_decide_eq_false hb
    have hn : fullR rs ≠ [] := fun z => hz (by rw [z]; rfl)
    have hz2 : bndR rs = bnd (fullR rs) := by
      unfold bndR
      rw [if_neg]
      intro z
      exact hn (List.isEmpty_iff.mp z)
    obtain ⟨_, _, hin, hto⟩ := bnd_ok hfg hn
    rw [← hz2] at hin hto
    refine g_nextU ?_
    refine gs_forD (xs := fullR rs) (f := dR) (fun _ => [some (.i (dI ns)), some (.i (T3 fs fx fy)), some (.i (dRs rs)), some (.i (.int m)), none, some (.i (dRs rs)), some (.i (dR (bndR rs))), some (.i (dRs (fullR rs))), none]) (fun _ => [.x]) (ex_var rfl) (fun _ _ _ _ _ ok => ok) (fun fr up pre r post hx => ⟨_, _, tg_name, ?_⟩) ?_
    · walk_at "nf"
      have hr : r ∈ fullR rs := by rw [hx]; simp
      refine' gs_if (b := false) (EvT.is ?t4 ?e4) (fun hb => nomatch hb) (fun _ => g_nextU ?_)
      case t4 => walk_at "t"
      case e4 => rw [hin r hr]; rfl
      walk_at "wk"
    · refine' gs_ret (EvX.is ?vc ?vd) hq
      case vc => walk_at "v"
      case vd => rw [hto]
def fn : List He.DefD := [dD "is_empty" s_is_empty, dD "bounding" s_bounding, dD "_law_cell" s__law_cell, dD "_law_mixed" s__law_mixed, dD "_law_source" s__law_source, dD "_law_is_integer" s__law_is_integer, dD "_law_is_rect" s__law_is_rect, dD "_law_small" s__law_small, dD "_law_smalls" s__law_smalls, dD "_law_frame" s__law_frame, dD "_law_large" s__law_large, dD "_law_touches" s__law_touches, dD "_law_inside" s__law_inside, dD "law" s_law]
def fa : List He.Fa := [.glo "is_empty", .glo "bounding", .glo "_law_cell", .glo "_law_mixed", .glo "_law_source", .glo "_law_is_integer", .glo "_law_is_rect", .glo "_law_small", .glo "_law_smalls", .glo "_law_frame", .glo "_law_large", .glo "_law_touches", .glo "_law_inside", .glo "law", .free "bool", .free "int", .free "isinstance", .free "len", .free "list", .free "max", .free "min", .free "range", .free "tuple", .glo "EMPTY"]
def ex (K : PySem.W.Frag) : Bool := He.tupB K "EMPTY" [.int 0, .int 0, .int 0, .int 0]
abbrev R : PySem.W.OpenRow := PySem.W.OpenLaw.row PySem.Challenge.rw_quirekiln_k03_bounding_rectangle
abbrev hk : PySem.W.Hook := He.hookX 4 fa fn [] [] ex
def ob (s : PySem.W.SharedT) : He.AlX := He.obsX 4 fa fn [] [] ex (HandSHeadRun.getT s)
theorem ob_eq (s : PySem.W.SharedT) : ob s = hk.obs s.abs := He.obsX_eq (HandSHeadRun.getT_eq s)
set_option maxHeartbeats 0 in
theorem run (w : World) : HandSHeadRun.RunEq R (PySem.W.view R.prog [16]) hk ob 960 ["EMPTY", "is_empty", "bounding", "_law_cell", "_law_mixed", "_law_source", "_law_is_integer", "_law_is_rect", "_law_small", "_law_smalls", "_law_frame", "_law_large", "_law_touches", "_law_inside"] w := by
  intro os
  kernel_rfl
theorem facts {P : Program} (w : World) (mg : Str → Option Value) (K : PySem.W.Frag) (h : Heap) (KX : K.In h) (G : h.Ns mainGlobals mg) (c : He.SaysX fa fn [] [] ex w h K) : mg "law" = some (.ref (He.ga K "law")) ∧ ∃ fd, FnP K "law" s_law (He.ga K "law") fd ∧
    ∀ base : Heap, K.In base → base.Ns mainGlobals mg → FnOk P w K mg base CX0 4 (He.ga K "law") fd ["script"] (spD K RLaw) := by
  have cd := c.t.d
  have q_is_empty : mg "is_empty" = some (.ref (He.ga K "is_empty")) := He.glo_ok KX G (cd.fact 0 (f := .glo "is_empty") rfl)
  obtain ⟨d_is_empty, e_is_empty⟩ := cd.def_ 0 (d := dD "is_empty" s_is_empty) rfl
  have F_is_empty : FnP K "is_empty" s_is_empty (He.ga K "is_empty") d_is_empty := e_is_empty
  have q_bounding : mg "bounding" = some (.ref (He.ga K "bounding")) := He.glo_ok KX G (cd.fact 1 (f := .glo "bounding") rfl)
  obtain ⟨d_bounding, e_bounding⟩ := cd.def_ 1 (d := dD "bounding" s_bounding) rfl
  have F_bounding : FnP K "bounding" s_bounding (He.ga K "bounding") d_bounding := e_bounding
  have q__law_cell : mg "_law_cell" = some (.ref (He.ga K "_law_cell")) := He.glo_ok KX G (cd.fact 2 (f := .glo "_law_cell") rfl)
  obtain ⟨d__law_cell, e__law_cell⟩ := cd.def_ 2 (d := dD "_law_cell" s__law_cell) rfl
  have F__law_cell : FnP K "_law_cell" s__law_cell (He.ga K "_law_cell") d__law_cell := e__law_cell
  have q__law_mixed : mg "_law_mixed" = some (.ref (He.ga K "_law_mixed")) := He.glo_ok KX G (cd.fact 3 (f := .glo "_law_mixed") rfl)
  obtain ⟨d__law_mixed, e__law_mixed⟩ := cd.def_ 3 (d := dD "_law_mixed" s__law_mixed) rfl
  have F__law_mixed : FnP K "_law_mixed" s__law_mixed (He.ga K "_law_mixed") d__law_mixed := e__law_mixed
  have q__law_source : mg "_law_source" = some (.ref (He.ga K "_law_source")) := He.glo_ok KX G (cd.fact 4 (f := .glo "_law_source") rfl)
  obtain ⟨d__law_source, e__law_source⟩ := cd.def_ 4 (d := dD "_law_source" s__law_source) rfl
  have F__law_source : FnP K "_law_source" s__law_source (He.ga K "_law_source") d__law_source := e__law_source
  have q__law_is_integer : mg "_law_is_integer" = some (.ref (He.ga K "_law_is_integer")) := He.glo_ok KX G (cd.fact 5 (f := .glo "_law_is_integer") rfl)
  obtain ⟨d__law_is_integer, e__law_is_integer⟩ := cd.def_ 5 (d := dD "_law_is_integer" s__law_is_integer) rfl
  have F__law_is_integer : FnP K "_law_is_integer" s__law_is_integer (He.ga K "_law_is_integer") d__law_is_integer := e__law_is_integer
  have q__law_is_rect : mg "_law_is_rect" = some (.ref (He.ga K "_law_is_rect")) := He.glo_ok KX G (cd.fact 6 (f := .glo "_law_is_rect") rfl)
  obtain ⟨d__law_is_rect, e__law_is_rect⟩ := cd.def_ 6 (d := dD "_law_is_rect" s__law_is_rect) rfl
  have F__law_is_rect : FnP K "_law_is_rect" s__law_is_rect (He.ga K "_law_is_rect") d__law_is_rect := e__law_is_rect
  have q__law_small : mg "_law_small" = some (.ref (He.ga K "_law_small")) := He.glo_ok KX G (cd.fact 7 (f := .glo "_law_small") rfl)
  obtain ⟨d__law_small, e__law_small⟩ := cd.def_ 7 (d := dD "_law_small" s__law_small) rfl
  have F__law_small : FnP K "_law_small" s__law_small (He.ga K "_law_small") d__law_small := e__law_small
  have q__law_smalls : mg "_law_smalls" = some (.ref (He.ga K "_law_smalls")) := He.glo_ok KX G (cd.fact 8 (f := .glo "_law_smalls") rfl)
  obtain ⟨d__law_smalls, e__law_smalls⟩ := cd.def_ 8 (d := dD "_law_smalls" s__law_smalls) rfl
  have F__law_smalls : FnP K "_law_smalls" s__law_smalls (He.ga K "_law_smalls") d__law_smalls := e__law_smalls
  have q__law_frame : mg "_law_frame" = some (.ref (He.ga K "_law_frame")) := He.glo_ok KX G (cd.fact 9 (f := .glo "_law_frame") rfl)
  obtain ⟨d__law_frame, e__law_frame⟩ := cd.def_ 9 (d := dD "_law_frame" s__law_frame) rfl
  have F__law_frame : FnP K "_law_frame" s__law_frame (He.ga K "_law_frame") d__law_frame := e__law_frame
  have q__law_large : mg "_law_large" = some (.ref (He.ga K "_law_large")) := He.glo_ok KX G (cd.fact 10 (f := .glo "_law_large") rfl)
  obtain ⟨d__law_large, e__law_large⟩ := cd.def_ 10 (d := dD "_law_large" s__law_large) rfl
  have F__law_large : FnP K "_law_large" s__law_large (He.ga K "_law_large") d__law_large := e__law_large
  have q__law_touches : mg "_law_touches" = some (.ref (He.ga K "_law_touches")) := He.glo_ok KX G (cd.fact 11 (f := .glo "_law_touches") rfl)
  obtain ⟨d__law_touches, e__law_touches⟩ := cd.def_ 11 (d := dD "_law_touches" s__law_touches) rfl
  have F__law_touches : FnP K "_law_touches" s__law_touches (He.ga K "_law_touches") d__law_touches := e__law_touches
  have q__law_inside : mg "_law_inside" = some (.ref (He.ga K "_law_inside")) := He.glo_ok KX G (cd.fact 12 (f := .glo "_law_inside") rfl)
  obtain ⟨d__law_inside, e__law_inside⟩ := cd.def_ 12 (d := dD "_law_inside" s__law_inside) rfl
  have F__law_inside : FnP K "_law_inside" s__law_inside (He.ga K "_law_inside") d__law_inside := e__law_inside
  have q_law : mg "law" = some (.ref (He.ga K "law")) := He.glo_ok KX G (cd.fact 13 (f := .glo "law") rfl)
  obtain ⟨d_law, e_law⟩ := cd.def_ 13 (d := dD "law" s_law) rfl
  have F_law : FnP K "law" s_law (He.ga K "law") d_law := e_law
  have z_bool : mg "bool" = none := He.free_ok KX G (cd.fact 14 (f := .free "bool") rfl)
  have z_int : mg "int" = none := He.free_ok KX G (cd.fact 15 (f := .free "int") rfl)
  have z_isinstance : mg "isinstance" = none := He.free_ok KX G (cd.fact 16 (f := .free "isinstance") rfl)
  have z_len : mg "len" = none := He.free_ok KX G (cd.fact 17 (f := .free "len") rfl)
  have z_list : mg "list" = none := He.free_ok KX G (cd.fact 18 (f := .free "list") rfl)
  have z_max : mg "max" = none := He.free_ok KX G (cd.fact 19 (f := .free "max") rfl)
  have z_min : mg "min" = none := He.free_ok KX G (cd.fact 20 (f := .free "min") rfl)
  have z_range : mg "range" = none := He.free_ok KX G (cd.fact 21 (f := .free "range") rfl)
  have z_tuple : mg "tuple" = none := He.free_ok KX G (cd.fact 22 (f := .free "tuple") rfl)
  have hex : ex K = true := c.more
  unfold ex at hex
  try simp only [Bool.and_eq_true] at hex
  have c_EMPTY : mg "EMPTY" = some (.ref (He.ga K "EMPTY")) := He.glo_ok KX G (cd.fact 23 (f := .glo "EMPTY") rfl)
  have k_EMPTY : ∀ N H, Dn K N H (.ref (He.ga K "EMPTY")) (.tuple [(.int 0), (.int 0), (.int 0), (.int 0)]) := fun N H => .tup (He.tupB_ok hex H) (.cons (.int _) (.cons (.int _) (.cons (.int _) (.cons (.int _) .nil))))
  refine ⟨q_law, d_law, F_law, fun base hb hg => ?_⟩
  have h_is_empty := ok_is_empty (P := P) (w := w) (base := base) F_is_empty q_is_empty
  have h_bounding := ok_bounding (P := P) (w := w) (base := base) F_bounding q_bounding h_is_empty z_min z_max c_EMPTY k_EMPTY
  have h__law_cell := ok__law_cell (P := P) (w := w) (base := base) F__law_cell q__law_cell z_len
  have h__law_mixed := ok__law_mixed (P := P) (w := w) (base := base) F__law_mixed q__law_mixed z_int
  have h__law_source := ok__law_source (P := P) (w := w) (base := base) F__law_source q__law_source h__law_mixed
  have h__law_is_integer := ok__law_is_integer (P := P) (w := w) (base := base) F__law_is_integer q__law_is_integer z_isinstance z_int z_bool
  have h__law_is_rect := ok__law_is_rect (P := P) (w := w) (base := base) F__law_is_rect q__law_is_rect h__law_is_integer z_isinstance z_tuple z_len
  have h__law_small := ok__law_small (P := P) (w := w) (base := base) F__law_small q__law_small z_int
  have h__law_smalls := ok__law_smalls (P := P) (w := w) (base := base) F__law_smalls q__law_smalls h__law_source h__law_cell h__law_small h__law_mixed z_range z_int
  have h__law_frame := ok__law_frame (P := P) (w := w) (base := base) F__law_frame q__law_frame h__law_source z_int
  have h__law_large := ok__law_large (P := P) (w := w) (base := base) F__law_large q__law_large
  have h__law_touches := ok__law_touches (P := P) (w := w) (base := base) F__law_touches q__law_touches z_len
  have h__law_inside := ok__law_inside (P := P) (w := w) (base := base) F__law_inside q__law_inside
  have h_law := ok_law (P := P) (w := w) (base := base) F_law h__law_frame h_bounding h__law_touches h__law_cell h__law_large h__law_source h__law_smalls h__law_is_rect h__law_inside z_list z_len z_int
  exact h_law
end Q
open PySem PySem.W PySem.Calls PyProof.Rows
set_option maxHeartbeats 0 in
theorem PySem.Challenge.cw_quirekiln_k03_bounding_rectangle_holds : PySem.Challenge.rw_quirekiln_k03_bounding_rectangle.Holds := by
  w_on; o_law
  refine HandSHeadRun.head_any (r := OpenLaw.row PySem.Challenge.rw_quirekiln_k03_bounding_rectangle) (q := view (OpenLaw.row PySem.Challenge.rw_quirekiln_k03_bounding_rectangle).prog [16]) (H := Q.hk) (ob := Q.ob) (M := 960) (loose := ["EMPTY", "is_empty", "bounding", "_law_cell", "_law_mixed", "_law_source", "_law_is_integer", "_law_is_rect", "_law_small", "_law_smalls", "_law_frame", "_law_large", "_law_touches", "_law_inside"]) (d := HandSHeadRun.topDef (OpenLaw.row PySem.Challenge.rw_quirekiln_k03_bounding_rectangle).prog 16) (kwd := []) Q.ob_eq
    (by kernel_rfl) (fun s => by kernel_rfl) Q.run (by kernel_rfl) (by kernel_rfl) (by kernel_rfl) (by rfl) (by first | assumption | decide +kernel) (by decide +kernel) ⟨rfl, rfl, rfl, rfl, rfl, by decide +kernel⟩ ?hw ?hc
  case hw => w_witness2
  case hc =>
    exact DL.walk_end (l := PySem.Challenge.rw_quirekiln_k03_bounding_rectangle) (k := 4) (st := Q.s_law) rfl (by kernel_rfl) ⟨rfl, by decide, by decide⟩ (by kernel_rfl) (fun _ _ _ _ _ _ us hl => match us, hl with | [_], _ => rfl) (fun w mg K h KX G c => Q.facts w mg K h KX G c)
