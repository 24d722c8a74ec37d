import PyProof.Rows.All
import Wide.All
import OpenK.AllK
import Wide.FinOn
import HandS.ForMost
import HandS.TupAny
import HandS.Zip
import HandS.IsInst
import HandS.Walk
import HandS.SortInts
import HandS.Strs
import HandS.SetFor
import KE.GoesMore
import KE.GoesEnum
import HandS.SortKw
import PyProof.WalksMore
import HandS.Evl
import HandS.Conv
import PyProof.Draws
import KE.KItemsList
import HandS.Deep
import HandS.Wide
import HandS.TupLe
import PyProof.ListNew
import HandS.GenList
import HandS.Sort
import PyProof.CallType
import KE.GoesEnumKw
import HandS.TupSets
import PyProof.P3In
import PySem.Challenge.RW_leastmoved_k38_kept_pairs
set_option Elab.async false
set_option linter.all false
set_option maxRecDepth 100000
set_option maxHeartbeats 4000000
namespace Lm
open PySem PySem.Spec PyProof.Rows L2

/-- what is around: the written part, and (perhaps) the stream with the script's copy -/
structure Ct where
  K : PySem.W.Frag
  so : Option (Addr × Addr)
def okA (c : Ct) (a : Addr) : Prop := ∀ st l, c.so = some (st, l) → a ≠ st
/-- the stream at st: a copy of the script at l, a cell, a place -/
def Str1 (K : PySem.W.Frag) (st l : Addr) (H : Hp) : Prop :=
  ∃ (ns : List Int) (x k : Int), H st = some (.lst [.ref l, .int x, .int k]) ∧ H l = some (.lst (ns.map V.int)) ∧ l ≠ st ∧ 0 ≤ k
def Ji (c : Ct) (H : Hp) : Prop := ∀ st l, c.so = some (st, l) → Str1 c.K st l H
def Rr (c : Ct) (H H' : Hp) : Prop := (∀ a o, okA c a → H a = some o → H' a = some o) ∧ (Ji c H → Ji c H')
variable {c : Ct} {H H' H0 H1 H2 H3 : Hp}
theorem Rr.rf : Rr c H H := ⟨fun _ _ _ h => h, fun h => h⟩
theorem Rr.tr (a : Rr c H H1) (b : Rr c H1 H2) : Rr c H H2 := ⟨fun x o k h => b.1 x o k (a.1 x o k h), fun h => b.2 (a.2 h)⟩
theorem Ji.same (j : Ji c H) (e : Same H H') : Ji c H' := fun st l h => by
  obtain ⟨ns, x, k, h1, h2, h3, h4⟩ := j st l h
  exact ⟨ns, x, k, e _ _ h1, e _ _ h2, h3, h4⟩
theorem Rr.same (e : Same H H') : Rr c H H' := ⟨fun x o _ h => e x o h, fun j => j.same e⟩
theorem okA.fresh (j : Ji c H) {p : Addr} (h : H p = none) : okA c p := fun st l e z => by
  obtain ⟨ns, x, k, h1, _⟩ := j st l e
  rw [z, h1] at h
  cases h
theorem okA.tup (j : Ji c H) {p : Addr} {o : HO} (h : H p = some o) (n : ∀ xs, o ≠ .lst xs) : okA c p := fun st l e z => by
  obtain ⟨ns, x, k, h1, _⟩ := j st l e
  rw [z, h1] at h
  exact n _ (Option.some.inj h).symm
theorem Rr.back (r : Rr c H H') (j : Ji c H) {p : Addr} (h : H' p = none) : H p = none := by
  cases q : H p with
  | none => rfl
  | some o =>
    have k : okA c p := fun st l e z => by
      obtain ⟨ns, x, k, h1, _⟩ := r.2 j st l e
      rw [z, h1] at h
      cases h
    rw [r.1 p o k q] at h
    cases h
/-- a tuple (one that has no dict of its own) -/
def TpN (K : PySem.W.Frag) (H : Hp) (a : Addr) (xs : List V) : Prop :=
  (∃ o : Obj, o.dict = none ∧ H a = some (.frz o (.tup xs))) ∨
    ∃ (o : Obj) (its : Array Value) (n : Nat), K.lookup a = some o ∧ o.cls = .type "tuple" ∧ o.dict = none ∧ o.data = .seq its n ∧ its.size ≤ sizeLine ∧ Vals xs its.toList
theorem TpN.sq {K : PySem.W.Frag} {a : Addr} {xs : List V} (h : TpN K H a xs) : SqT K H a xs := by
  rcases h with ⟨o, _, h⟩ | ⟨o, its, n, h1, h2, _, h3, h4, h5⟩
  · exact .inl (.inr ⟨o, h⟩)
  · exact .inr ⟨o, its, n, h1, h2, h3, h4, h5⟩
theorem Rr.tup (r : Rr c H H') (j : Ji c H) {a : Addr} {xs : List V} (h : TpN c.K H a xs) : TpN c.K H' a xs := by
  rcases h with ⟨o, q, h⟩ | h
  · exact .inl ⟨o, q, r.1 _ _ (okA.tup j h (fun _ => by simp)) h⟩
  · exact .inr h
theorem Rr.lst (r : Rr c H H') {a : Addr} {xs : List V} (k : okA c a) (h : SqL c.K H a xs) : SqL c.K H' a xs := by
  rcases h with (h | ⟨o, h⟩) | h
  · exact .inl (.inl (r.1 _ _ k h))
  · exact .inl (.inr ⟨o, r.1 _ _ k h⟩)
  · exact .inr h

/-! ### values as data: ints, texts, tuples; lists whose addresses are not the stream's -/
mutual
inductive Bo (c : Ct) (H : Hp) : V → PyData → Prop
  | non : Bo c H .non .none
  | bl (b : Bool) : Bo c H (.bl b) (.bool b)
  | int (i : Int) : Bo c H (.int i) (.int i)
  | str (x : Str) : Bo c H (.str x) (.str x)
  | lst {a : Addr} {xs : List V} {ds : List PyData} : okA c a → SqL c.K H a xs → BoAll c H xs ds → Bo c H (.ref a) (.list ds)
  | tup {a : Addr} {xs : List V} {ds : List PyData} : TpN c.K H a xs → BoAll c H xs ds → Bo c H (.ref a) (.tuple ds)
inductive BoAll (c : Ct) (H : Hp) : List V → List PyData → Prop
  | nil : BoAll c H [] []
  | cons {v : V} {vs : List V} {d : PyData} {ds : List PyData} : Bo c H v d → BoAll c H vs ds → BoAll c H (v :: vs) (d :: ds)
end
mutual
theorem Bo.up (h : ∀ a xs, TpN c.K H a xs → TpN c.K H' a xs) (g : ∀ a xs, okA c a → SqL c.K H a xs → SqL c.K H' a xs) : ∀ {v : V} {d : PyData}, Bo c H v d → Bo c H' v d
  | _, _, .non => .non
  | _, _, .bl b => .bl b
  | _, _, .int b => .int b
  | _, _, .str b => .str b
  | _, _, .lst k s a => .lst k (g _ _ k s) (BoAll.up h g a)
  | _, _, .tup s a => .tup (h _ _ s) (BoAll.up h g a)
theorem BoAll.up (h : ∀ a xs, TpN c.K H a xs → TpN c.K H' a xs) (g : ∀ a xs, okA c a → SqL c.K H a xs → SqL c.K H' a xs) : ∀ {v : List V} {d : List PyData}, BoAll c H v d → BoAll c H' v d
  | _, _, .nil => .nil
  | _, _, .cons a b => .cons (Bo.up h g a) (BoAll.up h g b)
end
theorem Bo.mono (j : Ji c H) (r : Rr c H H') {v : V} {d : PyData} (h : Bo c H v d) : Bo c H' v d := h.up (fun _ _ s => r.tup j s) (fun _ _ k s => r.lst k s)
theorem BoAll.mono (j : Ji c H) (r : Rr c H H') {v : List V} {d : List PyData} (h : BoAll c H v d) : BoAll c H' v d := h.up (fun _ _ s => r.tup j s) (fun _ _ k s => r.lst k s)
theorem sqT_same {K : PySem.W.Frag} (e : Same H H') {a : Addr} {xs : List V} (h : TpN K H a xs) : TpN K H' a xs := by
  rcases h with ⟨o, q, h⟩ | h
  · exact .inl ⟨o, q, e _ _ h⟩
  · exact .inr h
theorem Bo.same (e : Same H H') {v : V} {d : PyData} (h : Bo c H v d) : Bo c H' v d := h.up (fun _ _ s => sqT_same e s) (fun _ _ k s => e.seq s)
theorem BoAll.same (e : Same H H') {v : List V} {d : List PyData} (h : BoAll c H v d) : BoAll c H' v d := h.up (fun _ _ s => sqT_same e s) (fun _ _ k s => e.seq s)
theorem BoAll.len : ∀ {v : List V} {d : List PyData}, BoAll c H v d → v.length = d.length
  | _, _, .nil => rfl
  | _, _, .cons _ b => by simp [BoAll.len b]
theorem BoAll.get : ∀ {v : List V} {d : List PyData} {i : Nat} {x : V}, BoAll c H v d → v[i]? = some x → ∃ e, d[i]? = some e ∧ Bo c H x e
  | _, _, _, _, .nil, h => by simp at h
  | _, _, 0, x, .cons a b, h => by
    have e : _ = x := Option.some.inj h
    subst e
    exact ⟨_, rfl, a⟩
  | _, _, i + 1, x, .cons a b, h => BoAll.get (i := i) b (by simpa using h)
theorem BoAll.gets : ∀ {v : List V} {d : List PyData} {i : Nat} {e : PyData}, BoAll c H v d → d[i]? = some e → ∃ x, v[i]? = some x ∧ Bo c H x e
  | _, _, _, _, .nil, h => by simp at h
  | _, _, 0, x, .cons a b, h => by
    have e : _ = x := Option.some.inj h
    subst e
    exact ⟨_, rfl, a⟩
  | _, _, i + 1, x, .cons a b, h => BoAll.gets (i := i) b (by simpa using h)
theorem BoAll.app : ∀ {v w : List V} {d e : List PyData}, BoAll c H v d → BoAll c H w e → BoAll c H (v ++ w) (d ++ e)
  | _, _, _, _, .nil, b => b
  | _, _, _, _, .cons a r, b => .cons a (BoAll.app r b)
theorem BoAll.set : ∀ {v : List V} {d : List PyData} {i : Nat} {x : V} {e : PyData}, BoAll c H v d → Bo c H x e → BoAll c H (v.set i x) (d.set i e)
  | _, _, _, _, _, .nil, b => .nil
  | _, _, 0, _, _, .cons a r, b => .cons b r
  | _, _, i + 1, _, _, .cons a r, b => .cons a (BoAll.set r b)
theorem BoAll.take : ∀ {v : List V} {d : List PyData} (i : Nat), BoAll c H v d → BoAll c H (v.take i) (d.take i)
  | _, _, 0, _ => .nil
  | _, _, i + 1, .nil => .nil
  | _, _, i + 1, .cons a b => .cons a (BoAll.take i b)
theorem BoAll.drop : ∀ {v : List V} {d : List PyData} (i : Nat), BoAll c H v d → BoAll c H (v.drop i) (d.drop i)
  | _, _, 0, h => h
  | _, _, i + 1, .nil => .nil
  | _, _, i + 1, .cons a b => BoAll.drop i b
theorem Bo.int' {v : V} {i : Int} (h : Bo c H v (.int i)) : v = .int i := by cases h; rfl
theorem Bo.bl' {v : V} {i : Bool} (h : Bo c H v (.bool i)) : v = .bl i := by cases h; rfl
theorem Bo.non' {v : V} (h : Bo c H v .none) : v = .non := by cases h; rfl
theorem Bo.str' {v : V} {i : Str} (h : Bo c H v (.str i)) : v = .str i := by cases h; rfl
theorem Bo.tup' {v : V} {ds : List PyData} (h : Bo c H v (.tuple ds)) : ∃ a xs, v = .ref a ∧ TpN c.K H a xs ∧ BoAll c H xs ds := by cases h with | tup s a => exact ⟨_, _, rfl, s, a⟩
theorem Bo.lst' {v : V} {ds : List PyData} (h : Bo c H v (.list ds)) : ∃ a xs, v = .ref a ∧ okA c a ∧ SqL c.K H a xs ∧ BoAll c H xs ds := by cases h with | lst k s a => exact ⟨_, _, rfl, k, s, a⟩
theorem BoAll.ints : ∀ {v : List V} {ns : List Int}, BoAll c H v (ns.map PyData.int) → v = ns.map V.int
  | v, [], h => by cases h; rfl
  | v, n :: ns, h => by
    cases h with
    | cons a b => rw [a.int', BoAll.ints b]; rfl
theorem BoAll.ofInts : ∀ (ns : List Int), BoAll c H (ns.map V.int) (ns.map PyData.int)
  | [] => .nil
  | n :: ns => .cons (.int n) (BoAll.ofInts ns)
theorem BoAll.bools : ∀ {v : List V} {ns : List Bool}, BoAll c H v (ns.map PyData.bool) → v = ns.map V.bl
  | v, [], h => by cases h; rfl
  | v, n :: ns, h => by
    cases h with
    | cons a b => rw [a.bl', BoAll.bools b]; rfl
theorem BoAll.ofBools : ∀ (ns : List Bool), BoAll c H (ns.map V.bl) (ns.map PyData.bool)
  | [] => .nil
  | n :: ns => .cons (.bl n) (BoAll.ofBools ns)
mutual
theorem Bo.dp : ∀ {v : V} {d : PyData}, Bo c H v d → Dp c.K H v d
  | _, _, .non => .non
  | _, _, .bl b => .bl b
  | _, _, .int b => .int b
  | _, _, .str b => .str b
  | _, _, .lst _ s a => .lst s (BoAll.dp a)
  | _, _, .tup s a => .tup s.sq (BoAll.dp a)
theorem BoAll.dp : ∀ {v : List V} {d : List PyData}, BoAll c H v d → DpAll c.K H v d
  | _, _, .nil => .nil
  | _, _, .cons a b => .cons (Bo.dp a) (BoAll.dp b)
end
/-! no stream, no care -/
mutual
theorem Bo.pure : ∀ {v : V} {d : PyData}, Bo c H v d → Bo ⟨c.K, none⟩ H v d
  | _, _, .non => .non
  | _, _, .bl b => .bl b
  | _, _, .int b => .int b
  | _, _, .str b => .str b
  | _, _, .lst _ s a => .lst (fun _ _ e => nomatch e) s (BoAll.pure a)
  | _, _, .tup s a => .tup s (BoAll.pure a)
theorem BoAll.pure : ∀ {v : List V} {d : List PyData}, BoAll c H v d → BoAll ⟨c.K, none⟩ H v d
  | _, _, .nil => .nil
  | _, _, .cons a b => .cons (Bo.pure a) (BoAll.pure b)
end
/-! data without lists -/
mutual
def flatD : PyData → Bool
  | .none => true
  | .bool _ => true
  | .int _ => true
  | .str _ => true
  | .tuple ds => flatAll ds
  | _ => false
def flatAll : List PyData → Bool
  | [] => true
  | d :: ds => flatD d && flatAll ds
end
theorem flatAll_ints (ns : List Int) : flatAll (ns.map PyData.int) = true := by
  induction ns with
  | nil => rfl
  | cons n ns ih =>
    show (flatD (.int n) && flatAll (ns.map PyData.int)) = true
    rw [ih]
    rfl
theorem flatAll_mem {ds : List PyData} (h : ∀ d ∈ ds, flatD d = true) : flatAll ds = true := by
  induction ds with
  | nil => rfl
  | cons d ds ih =>
    show (flatD d && flatAll ds) = true
    rw [h d (by simp), ih fun e he => h e (by simp [he])]
    rfl
mutual
theorem Bo.flat {c' : Ct} (hk : c'.K = c.K) : ∀ {v : V} {d : PyData}, flatD d = true → Bo c H v d → Bo c' H v d
  | _, _, _, .non => .non
  | _, _, _, .bl b => .bl b
  | _, _, _, .int b => .int b
  | _, _, _, .str b => .str b
  | _, _, q, .lst _ s a => by simp [flatD] at q
  | _, _, q, .tup s a => .tup (by rw [hk]; exact s) (BoAll.flat hk (by simpa [flatD] using q) a)
theorem BoAll.flat {c' : Ct} (hk : c'.K = c.K) : ∀ {v : List V} {d : List PyData}, flatAll d = true → BoAll c H v d → BoAll c' H v d
  | _, _, _, .nil => .nil
  | _, _, q, .cons a b => by
    have q' : (flatD _ && flatAll _) = true := q
    rw [Bool.and_eq_true] at q'
    exact .cons (Bo.flat hk q'.1 a) (BoAll.flat hk q'.2 b)
end

/-! ### the heap without some addresses -/
def mns (H : Hp) (O : List Addr) : Hp := fun a => if a ∈ O then none else H a
theorem mns_in {O : List Addr} {a : Addr} (h : a ∈ O) : mns H O a = none := if_pos h
theorem mns_out {O : List Addr} {a : Addr} (h : a ∉ O) : mns H O a = H a := if_neg h
theorem mns_same {O : List Addr} : Same (mns H O) H := fun a o h => by
  by_cases q : a ∈ O
  · rw [mns_in q] at h; cases h
  · rw [mns_out q] at h; exact h
theorem mns_some {O : List Addr} {a : Addr} {o : HO} (h : mns H O a = some o) : a ∉ O ∧ H a = some o := by
  by_cases q : a ∈ O
  · rw [mns_in q] at h; cases h
  · rw [mns_out q] at h; exact ⟨q, h⟩
theorem mns_sub {O O' : List Addr} (s : ∀ a, a ∈ O' → a ∈ O) : Same (mns H O) (mns H O') := fun a o h => by
  obtain ⟨q, h⟩ := mns_some h
  rw [mns_out (fun z => q (s a z))]
  exact h
theorem mns_nil : mns H [] = H := by
  funext a
  exact mns_out (by simp)
theorem Rr.mns {O : List Addr} (r : Rr c H H') (j : Ji c (mns H O)) (q : ∀ a ∈ O, okA c a) : Rr c (mns H O) (mns H' O) := by
  refine ⟨fun a o k h => ?_, fun _ st l e => ?_⟩
  · obtain ⟨n, h⟩ := mns_some h
    rw [mns_out n]
    exact r.1 a o k h
  · obtain ⟨ns, x, k, h1, h2, h3, h4⟩ := j st l e
    obtain ⟨n1, h1⟩ := mns_some h1
    obtain ⟨n2, h2⟩ := mns_some h2
    have jH : Ji c H := j.same mns_same
    obtain ⟨ns', x', k', g1, g2, g3, g4⟩ := r.2 jH st l e
    refine ⟨ns', x', k', ?_, ?_, g3, g4⟩
    · rw [mns_out n1]; exact g1
    · rw [mns_out n2]; exact g2
end Lm

namespace Lm
open PySem PySem.Spec PyProof.Rows L2
variable {c : Ct} {H H' H0 H1 H2 H3 : Hp} {O : List Addr}

/-! flat data leans on tuples alone -/
mutual
theorem Bo.flatTo {c' : Ct} (h : ∀ a xs, TpN c.K H a xs → TpN c'.K H' a xs) : ∀ {v : V} {d : PyData}, flatD d = true → Bo c H v d → Bo c' H' v d
  | _, _, _, .non => .non
  | _, _, _, .bl b => .bl b
  | _, _, _, .int b => .int b
  | _, _, _, .str b => .str b
  | _, _, q, .lst _ s a => by simp [flatD] at q
  | _, _, q, .tup s a => .tup (h _ _ s) (BoAll.flatTo h (by simpa [flatD] using q) a)
theorem BoAll.flatTo {c' : Ct} (h : ∀ a xs, TpN c.K H a xs → TpN c'.K H' a xs) : ∀ {v : List V} {d : List PyData}, flatAll d = true → BoAll c H v d → BoAll c' H' v d
  | _, _, _, .nil => .nil
  | _, _, q, .cons a b => by
    have q' : (flatD _ && flatAll _) = true := q
    rw [Bool.and_eq_true] at q'
    exact .cons (Bo.flatTo h q'.1 a) (BoAll.flatTo h q'.2 b)
end
theorem sqT_mns {K : PySem.W.Frag} (hO : ∀ a ∈ O, ∃ xs, H a = some (.lst xs)) {a : Addr} {xs : List V} (h : TpN K H a xs) : TpN K (mns H O) a xs := by
  have n : ∀ u, H a = some u → (∀ ys, u ≠ .lst ys) → mns H O a = some u := fun u e k => by
    have : a ∉ O := fun z => by
      obtain ⟨ys, q⟩ := hO a z
      rw [q] at e
      exact k ys (Option.some.inj e).symm
    rw [mns_out this]; exact e
  rcases h with ⟨o, q, h⟩ | h
  · exact .inl ⟨o, q, n _ h fun _ => by simp⟩
  · exact .inr h
theorem sqT_upd {K : PySem.W.Frag} {p : Addr} {zs : List V} {o : HO} (hp : H p = some (.lst zs)) {a : Addr} {xs : List V} (h : TpN K H a xs) : TpN K (upd H p o) a xs := by
  have n : ∀ u, H a = some u → (∀ ys, u ≠ .lst ys) → upd H p o a = some u := fun u e k => by
    have : a ≠ p := fun z => by
      rw [z, hp] at e
      exact k zs (Option.some.inj e).symm
    rw [upd_ne this]; exact e
  rcases h with ⟨o, q, h⟩ | h
  · exact .inl ⟨o, q, n _ h fun _ => by simp⟩
  · exact .inr h

/-! ### lists of one's own: the addresses that may be written -/
mutual
inductive Fo (c : Ct) (H : Hp) : V → PyData → List Addr → Prop
  | leaf {v : V} {d : PyData} : flatD d = true → Bo c H v d → Fo c H v d []
  | lst {a : Addr} {xs : List V} {ds : List PyData} {fp : List Addr} : H a = some (.lst xs) → FoAll c H xs ds fp → Fo c H (.ref a) (.list ds) (a :: fp)
inductive FoAll (c : Ct) (H : Hp) : List V → List PyData → List Addr → Prop
  | nil : FoAll c H [] [] []
  | cons {v : V} {vs : List V} {d : PyData} {ds : List PyData} {f fs : List Addr} : Fo c H v d f → FoAll c H vs ds fs → FoAll c H (v :: vs) (d :: ds) (f ++ fs)
end
mutual
theorem Fo.up (h : ∀ a xs, TpN c.K H a xs → TpN c.K H' a xs) : ∀ {v : V} {d : PyData} {fp : List Addr}, (∀ a ∈ fp, ∀ o, H a = some o → H' a = some o) → Fo c H v d fp → Fo c H' v d fp
  | _, _, _, _, .leaf q b => .leaf q (b.flatTo h q)
  | _, _, _, k, .lst e a => .lst (k _ (by simp) _ e) (FoAll.up h (fun b hb => k b (by simp [hb])) a)
theorem FoAll.up (h : ∀ a xs, TpN c.K H a xs → TpN c.K H' a xs) : ∀ {v : List V} {d : List PyData} {fp : List Addr}, (∀ a ∈ fp, ∀ o, H a = some o → H' a = some o) → FoAll c H v d fp → FoAll c H' v d fp
  | _, _, _, _, .nil => .nil
  | _, _, _, k, .cons a b => .cons (Fo.up h (fun x hx => k x (by simp [hx])) a) (FoAll.up h (fun x hx => k x (by simp [hx])) b)
end
mutual
theorem Fo.bo : ∀ {v : V} {d : PyData} {fp : List Addr}, (∀ a ∈ fp, okA c a) → Fo c H v d fp → Bo c H v d
  | _, _, _, _, .leaf _ b => b
  | _, _, _, k, .lst e a => .lst (k _ (by simp)) (.inl (.inl e)) (FoAll.bo (fun b hb => k b (by simp [hb])) a)
theorem FoAll.bo : ∀ {v : List V} {d : List PyData} {fp : List Addr}, (∀ a ∈ fp, okA c a) → FoAll c H v d fp → BoAll c H v d
  | _, _, _, _, .nil => .nil
  | _, _, _, k, .cons a b => .cons (Fo.bo (fun x hx => k x (by simp [hx])) a) (FoAll.bo (fun x hx => k x (by simp [hx])) b)
end
theorem FoAll.leaves : ∀ {v : List V} {d : List PyData}, flatAll d = true → BoAll c H v d → FoAll c H v d []
  | _, _, _, .nil => .nil
  | _, _, q, .cons a b => by
    have q' : (flatD _ && flatAll _) = true := q
    rw [Bool.and_eq_true] at q'
    exact .cons (f := []) (fs := []) (.leaf q'.1 a) (FoAll.leaves q'.2 b)
mutual
theorem Fo.isL : ∀ {v : V} {d : PyData} {fp : List Addr}, Fo c H v d fp → ∀ a ∈ fp, ∃ xs, H a = some (.lst xs)
  | _, _, _, .leaf _ _, a, h => by simp at h
  | _, _, _, .lst e f, a, h => by
    rcases List.mem_cons.mp h with q | q
    · rw [q]; exact ⟨_, e⟩
    · exact FoAll.isL f a q
theorem FoAll.isL : ∀ {v : List V} {d : List PyData} {fp : List Addr}, FoAll c H v d fp → ∀ a ∈ fp, ∃ xs, H a = some (.lst xs)
  | _, _, _, .nil, a, h => by simp at h
  | _, _, _, .cons e f, a, h => by
    rcases List.mem_append.mp h with q | q
    · exact Fo.isL e a q
    · exact FoAll.isL f a q
end
theorem FoAll.app : ∀ {v w : List V} {d e : List PyData} {f g : List Addr}, FoAll c H v d f → FoAll c H w e g → FoAll c H (v ++ w) (d ++ e) (f ++ g)
  | _, _, _, _, _, _, .nil, b => b
  | _, _, _, _, _, _, .cons a r, b => by
    rw [List.append_assoc]
    exact .cons a (FoAll.app r b)
/-- a flat list of one's own -/
theorem Fo.list' {v : V} {ds : List PyData} {fp : List Addr} (h : Fo c H v (.list ds) fp) : ∃ a xs f, v = .ref a ∧ fp = a :: f ∧ H a = some (.lst xs) ∧ FoAll c H xs ds f := by
  cases h with
  | leaf q _ => simp [flatD] at q
  | lst e a => exact ⟨_, _, _, rfl, rfl, e, a⟩
theorem FoAll.flat0 : ∀ {v : List V} {d : List PyData} {f : List Addr}, flatAll d = true → FoAll c H v d f → f = [] ∧ BoAll c H v d
  | _, _, _, _, .nil => ⟨rfl, .nil⟩
  | _, _, _, q, .cons a b => by
    have q' : (flatD _ && flatAll _) = true := q
    rw [Bool.and_eq_true] at q'
    obtain ⟨e1, b1⟩ := FoAll.flat0 q'.2 b
    cases a with
    | leaf _ x => exact ⟨by rw [e1]; rfl, .cons x b1⟩
    | lst _ _ => simp [flatD] at q'

/-! ### what the slots hold -/
inductive Rs where
  /-- a value that will not change -/
  | v (d : PyData)
  /-- a list of one's own -/
  | o (d : PyData)
  /-- this very value -/
  | r (x : V)
def RepO (c : Ct) (O : List Addr) (H : Hp) (x : Option V) : Option Rs → List Addr → Prop
  | none, fp => fp = []
  | some (.v d), fp => fp = [] ∧ ∃ v, x = some v ∧ Bo c (mns H O) v d
  | some (.o d), fp => ∃ v, x = some v ∧ Fo c H v d fp
  | some (.r y), fp => fp = [] ∧ x = some y
inductive Reps (c : Ct) (O : List Addr) (H : Hp) : L2.St → List (Option Rs) → List Addr → Prop
  | nil : Reps c O H [] [] []
  | cons {x : Option V} {s : Option Rs} {f fs : List Addr} {σ : L2.St} {Γ : List (Option Rs)} : RepO c O H x s f → Reps c O H σ Γ fs → Reps c O H (x :: σ) (s :: Γ) (f ++ fs)
theorem Reps.len {σ : L2.St} {Γ : List (Option Rs)} {fp : List Addr} (h : Reps c O H σ Γ fp) : σ.length = Γ.length := by
  induction h with
  | nil => rfl
  | cons _ _ ih => simp [ih]
theorem Reps.map {O' : List Addr} {σ : L2.St} {Γ : List (Option Rs)} {fp : List Addr} (h : Reps c O H σ Γ fp) (k : ∀ x s f, (∀ a ∈ f, a ∈ fp) → RepO c O H x s f → RepO c O' H' x s f) : Reps c O' H' σ Γ fp := by
  induction h with
  | nil => exact .nil
  | cons a b ih => exact .cons (k _ _ _ (fun x hx => by simp [hx]) a) (ih fun x s f q => k x s f fun y hy => by simp [q y hy])
/-- the i-th slot, and how it is changed -/
theorem Reps.nth {σ : L2.St} {Γ : List (Option Rs)} {fp : List Addr} (h : Reps c O H σ Γ fp) : ∀ {i : Nat} {s : Option Rs}, Γ[i]? = some s →
    ∃ x f pre post, σ[i]? = some x ∧ RepO c O H x s f ∧ fp = pre ++ (f ++ post) ∧
      ∀ (O' : List Addr) (H' : Hp) (x' : Option V) (s' : Option Rs) (f' : List Addr), (∀ y t g, (∀ a ∈ g, a ∈ pre ++ post) → RepO c O H y t g → RepO c O' H' y t g) → RepO c O' H' x' s' f' → Reps c O' H' (σ.set i x') (Γ.set i s') (pre ++ (f' ++ post)) := by
  induction h with
  | nil => intro i s e; simp at e
  | cons a b ih =>
    rename_i x0 s0 f0 fs0 σ0 Γ0
    intro i s e
    cases i with
    | zero =>
      have e' : s0 = s := by simpa using e
      subst e'
      refine ⟨x0, f0, [], fs0, rfl, a, rfl, fun O' H' x' s' f' k r => ?_⟩
      show Reps c O' H' (x' :: σ0) (s' :: Γ0) (f' ++ fs0)
      exact .cons r (b.map fun y t g q z => k y t g (fun u hu => by simpa using q u hu) z)
    | succ i =>
      obtain ⟨x, f, pre, post, h1, h2, h3, h4⟩ := ih (i := i) (by simpa using e)
      refine ⟨x, f, f0 ++ pre, post, by simpa using h1, h2, by rw [h3]; simp, fun O' H' x' s' f' k r => ?_⟩
      have := h4 O' H' x' s' f' (fun y t g q z => k y t g (fun u hu => by have := q u hu; simp at this ⊢; rcases this with w | w <;> simp [w]) z) r
      rw [List.append_assoc]
      exact .cons (k _ _ _ (fun u hu => by simp [hu]) a) this

/-- the entry's heap H0, the addresses of one's own O, the heap H, the slots σ and what they hold -/
structure Env (c : Ct) (H0 : Hp) (O : List Addr) (H : Hp) (σ : L2.St) (Γ : List (Option Rs)) : Prop where
  r0 : Rr c H0 (mns H O)
  j : Ji c (mns H O)
  fr : ∀ a ∈ O, H0 a = none
  dm : ∀ a ∈ O, ∃ xs, H a = some (.lst xs)
  rep : ∃ fp, Reps c O H σ Γ fp ∧ fp.Nodup ∧ ∀ a ∈ fp, a ∈ O
variable {σ : L2.St} {Γ : List (Option Rs)}
theorem Env.jH (e : Env c H0 O H σ Γ) : Ji c H := e.j.same mns_same
theorem Env.okO (e : Env c H0 O H σ Γ) : ∀ a ∈ O, okA c a := fun a ha st l q z => by
  obtain ⟨ns, x, k, h1, _⟩ := e.j st l q
  rw [← z, mns_in ha] at h1
  cases h1
theorem Env.rH (e : Env c H0 O H σ Γ) : Rr c H0 H := e.r0.tr (Rr.same mns_same)
theorem Env.len (e : Env c H0 O H σ Γ) : σ.length = Γ.length := let ⟨_, h, _⟩ := e.rep; h.len
/-- the heap goes on -/
theorem Env.on (e : Env c H0 O H σ Γ) (r : Rr c H H') : Env c H0 O H' σ Γ := by
  have rm := r.mns e.j e.okO
  refine ⟨e.r0.tr rm, rm.2 e.j, e.fr, fun a ha => ?_, ?_⟩
  · obtain ⟨xs, q⟩ := e.dm a ha
    exact ⟨xs, r.1 a _ (e.okO a ha) q⟩
  · obtain ⟨fp, h, nd, sub⟩ := e.rep
    refine ⟨fp, h.map fun x s f q z => ?_, nd, sub⟩
    cases s with
    | none => exact z
    | some s =>
      cases s with
      | v d => exact ⟨z.1, z.2.elim fun v hv => ⟨v, hv.1, hv.2.mono e.j rm⟩⟩
      | o d => exact z.elim fun v hv => ⟨v, hv.1, hv.2.up (fun _ _ s => r.tup e.jH s) fun a ha o ho => r.1 a o (e.okO a (sub a (q a ha))) ho⟩
      | r y => exact z
theorem Env.slotV (e : Env c H0 O H σ Γ) {i : Nat} {d : PyData} (h : Γ[i]? = some (some (.v d))) : ∃ v, σ[i]? = some (some v) ∧ Bo c (mns H O) v d := by
  obtain ⟨fp, hr, nd, sub⟩ := e.rep
  obtain ⟨x, f, pre, post, h1, h2, h3, h4⟩ := hr.nth h
  obtain ⟨v, hv, b⟩ := h2.2
  subst hv
  exact ⟨v, h1, b⟩
theorem Env.slotO (e : Env c H0 O H σ Γ) {i : Nat} {d : PyData} (h : Γ[i]? = some (some (.o d))) : ∃ v fp, σ[i]? = some (some v) ∧ Fo c H v d fp ∧ fp.Nodup ∧ ∀ a ∈ fp, a ∈ O := by
  obtain ⟨fp, hr, nd, sub⟩ := e.rep
  obtain ⟨x, f, pre, post, h1, h2, h3, h4⟩ := hr.nth h
  obtain ⟨v, hv, b⟩ := h2
  subst hv
  subst h3
  have n2 := (List.nodup_append.mp nd).2.1
  exact ⟨v, f, h1, b, (List.nodup_append.mp n2).1, fun a ha => sub a (by simp [ha])⟩
theorem Env.slotR (e : Env c H0 O H σ Γ) {i : Nat} {y : V} (h : Γ[i]? = some (some (.r y))) : σ[i]? = some (some y) := by
  obtain ⟨fp, hr, nd, sub⟩ := e.rep
  obtain ⟨x, f, pre, post, h1, h2, h3, h4⟩ := hr.nth h
  have hy : x = some y := h2.2
  rw [h1, hy]
/-- any slot is given another value that does not change -/
theorem Env.setV (e : Env c H0 O H σ Γ) {i : Nat} {v : V} {d : PyData} (b : Bo c (mns H O) v d) : Env c H0 O H (σ.set i (some v)) (Γ.set i (some (.v d))) := by
  refine ⟨e.r0, e.j, e.fr, e.dm, ?_⟩
  obtain ⟨fp, hr, nd, sub⟩ := e.rep
  by_cases hi : i < Γ.length
  · obtain ⟨x, f, pre, post, h1, h2, h3, h4⟩ := hr.nth (s := Γ[i]) (List.getElem?_eq_getElem hi)
    subst h3
    refine ⟨pre ++ ([] ++ post), h4 O H _ _ [] (fun _ _ _ _ z => z) ⟨rfl, v, rfl, b⟩, ?_, fun a ha => sub a ?_⟩
    · refine nd.sublist ?_
      simp
    · simp at ha ⊢
      rcases ha with q | q <;> simp [q]
  · have hs : ¬ i < σ.length := by rw [hr.len]; exact hi
    rw [List.set_eq_of_length_le (by omega), List.set_eq_of_length_le (by omega)]
    exact ⟨fp, hr, nd, sub⟩
theorem Env.setR (e : Env c H0 O H σ Γ) {i : Nat} {v : V} : Env c H0 O H (σ.set i (some v)) (Γ.set i (some (.r v))) := by
  refine ⟨e.r0, e.j, e.fr, e.dm, ?_⟩
  obtain ⟨fp, hr, nd, sub⟩ := e.rep
  by_cases hi : i < Γ.length
  · obtain ⟨x, f, pre, post, h1, h2, h3, h4⟩ := hr.nth (s := Γ[i]) (List.getElem?_eq_getElem hi)
    subst h3
    refine ⟨pre ++ ([] ++ post), h4 O H _ _ [] (fun _ _ _ _ z => z) ⟨rfl, rfl⟩, ?_, fun a ha => sub a ?_⟩
    · refine nd.sublist ?_
      simp
    · simp at ha ⊢
      rcases ha with q | q <;> simp [q]
  · have hs : ¬ i < σ.length := by rw [hr.len]; exact hi
    rw [List.set_eq_of_length_le (by omega), List.set_eq_of_length_le (by omega)]
    exact ⟨fp, hr, nd, sub⟩
/-- a slot is forgotten, whatever it holds then -/
theorem Env.setN (e : Env c H0 O H σ Γ) {i : Nat} {x : Option V} : Env c H0 O H (σ.set i x) (Γ.set i none) := by
  refine ⟨e.r0, e.j, e.fr, e.dm, ?_⟩
  obtain ⟨fp, hr, nd, sub⟩ := e.rep
  by_cases hi : i < Γ.length
  · obtain ⟨y, f, pre, post, h1, h2, h3, h4⟩ := hr.nth (s := Γ[i]) (List.getElem?_eq_getElem hi)
    subst h3
    refine ⟨pre ++ ([] ++ post), h4 O H _ _ [] (fun _ _ _ _ z => z) rfl, ?_, fun a ha => sub a ?_⟩
    · refine nd.sublist ?_
      simp
    · simp at ha ⊢
      rcases ha with q | q <;> simp [q]
  · have hs : ¬ i < σ.length := by rw [hr.len]; exact hi
    rw [List.set_eq_of_length_le (by omega), List.set_eq_of_length_le (by omega)]
    exact ⟨fp, hr, nd, sub⟩
/-- a slot is given a new list -/
theorem Env.setO (e : Env c H0 O H σ Γ) (r : Rr c H H') {i : Nat} {v : V} {d : PyData} {f : List Addr} (b : Fo c H' v d f) (nd' : f.Nodup) (new : ∀ a ∈ f, H a = none) :
    Env c H0 (f ++ O) H' (σ.set i (some v)) (Γ.set i (some (.o d))) := by
  have e' := e.on r
  have hdis : ∀ a ∈ f, a ∉ O := fun a ha hO => by
    obtain ⟨xs, q⟩ := e.dm a hO
    rw [new a ha] at q
    cases q
  have hn : ∀ a ∈ f, mns H O a = none := fun a ha => by
    rw [mns_out (hdis a ha)]; exact new a ha
  have same : Same (mns H O) (mns H' (f ++ O)) → True := fun _ => trivial
  have hrm : Rr c (mns H O) (mns H' (f ++ O)) := by
    have rm := r.mns e.j e.okO
    refine ⟨fun a o k h => ?_, fun _ st l q => ?_⟩
    · have h' := rm.1 a o k h
      obtain ⟨n1, h'⟩ := mns_some h'
      have : a ∉ f := fun z => by rw [hn a z] at h; cases h
      rw [mns_out (by simp [this, n1])]
      exact h'
    · obtain ⟨ns, x, k, h1, h2, h3, h4⟩ := e.j st l q
      obtain ⟨ns', x', k', g1, g2, g3, g4⟩ := e'.j st l q
      obtain ⟨m1, g1⟩ := mns_some g1
      obtain ⟨m2, g2⟩ := mns_some g2
      have a1 : st ∉ f := fun z => by rw [hn _ z] at h1; cases h1
      have a2 : l ∉ f := fun z => by rw [hn _ z] at h2; cases h2
      exact ⟨ns', x', k', by rw [mns_out (by simp [a1, m1])]; exact g1, by rw [mns_out (by simp [a2, m2])]; exact g2, g3, g4⟩
  have jn : Ji c (mns H' (f ++ O)) := hrm.2 e.j
  refine ⟨e.r0.tr hrm, jn, fun a ha => ?_, fun a ha => ?_, ?_⟩
  · rcases List.mem_append.mp ha with q | q
    · have := e.r0
      cases h : H0 a with
      | none => rfl
      | some o =>
        have jH0 : okA c a := fun st l q' z => by
          obtain ⟨ns, x, k, h1, _⟩ := e.j st l q'
          rw [← z, hn a q] at h1
          cases h1
        have := e.r0.1 a o jH0 h
        rw [hn a q] at this
        cases this
    · exact e.fr a q
  · rcases List.mem_append.mp ha with q | q
    · exact b.isL a q
    · exact e'.dm a q
  · obtain ⟨fp, hr, nd, sub⟩ := e.rep
    have keep : ∀ y t g, (∀ a ∈ g, a ∈ O) → RepO c O H y t g → RepO c (f ++ O) H' y t g := fun y t g hg z => by
      cases t with
      | none => exact z
      | some t =>
        cases t with
        | v d => exact ⟨z.1, z.2.elim fun v hv => ⟨v, hv.1, hv.2.mono e.j hrm⟩⟩
        | o d => exact z.elim fun v hv => ⟨v, hv.1, hv.2.up (fun _ _ s => r.tup e.jH s) fun a ha o ho => r.1 a o (e.okO a (hg a ha)) ho⟩
        | r y => exact z
    by_cases hi : i < Γ.length
    · obtain ⟨x, g, pre, post, h1, h2, h3, h4⟩ := hr.nth (s := Γ[i]) (List.getElem?_eq_getElem hi)
      subst h3
      refine ⟨pre ++ (f ++ post), h4 _ _ _ _ f (fun y t g' q z => keep y t g' (fun a ha => sub a (by have := q a ha; simp at this ⊢; rcases this with w | w <;> simp [w])) z) ⟨v, rfl, b⟩, ?_, fun a ha => ?_⟩
      · have n0 : (pre ++ post).Nodup := nd.sublist (by simp)
        rw [List.nodup_append] at n0 ⊢
        refine ⟨n0.1, ?_, ?_⟩
        · rw [List.nodup_append]
          refine ⟨nd', n0.2.1, fun a ha b' hb q => ?_⟩
          subst q
          exact hdis a ha (sub a (by simp [hb]))
        · intro a ha b' hb q
          subst q
          rcases List.mem_append.mp hb with w | w
          · exact hdis a w (sub a (by simp [ha]))
          · exact n0.2.2 a ha a w rfl
      · simp only [List.mem_append] at ha ⊢
        rcases ha with q | q | q
        · exact .inr (sub a (by simp [q]))
        · exact .inl q
        · exact .inr (sub a (by simp [q]))
    · have hs : ¬ i < σ.length := by rw [hr.len]; exact hi
      rw [List.set_eq_of_length_le (by omega), List.set_eq_of_length_le (by omega)]
      exact ⟨fp, hr.map fun x s g q z => keep x s g (fun a ha => sub a (q a ha)) z, nd, fun a ha => by simp [sub a ha]⟩
/-- a list of one's own is written: the slot's list at p -/
theorem Env.write (e : Env c H0 O H σ Γ) {i : Nat} {ds es : List PyData} (h : Γ[i]? = some (some (.o (.list ds)))) :
    ∃ p xs f, σ[i]? = some (some (.ref p)) ∧ H p = some (.lst xs) ∧ FoAll c H xs ds f ∧ p ∉ f ∧ (∀ a ∈ f, a ∈ O) ∧
      ∀ ys : List V, FoAll c (upd H p (.lst ys)) ys es f → Env c H0 O (upd H p (.lst ys)) σ (Γ.set i (some (.o (.list es)))) := by
  obtain ⟨fp, hr, nd, sub⟩ := e.rep
  obtain ⟨x, f0, pre, post, h1, h2, h3, h4⟩ := hr.nth h
  obtain ⟨v, hv, b⟩ := h2
  subst hv
  obtain ⟨p, xs, f, rfl, rfl, hp, hfa⟩ := b.list'
  subst h3
  have hpO : p ∈ O := sub p (by simp)
  have n2 := (List.nodup_append.mp nd).2.1
  have hpf : p ∉ f := fun z => by
    have := (List.nodup_append.mp n2).1
    exact (List.nodup_cons.mp this).1 z
  refine ⟨p, xs, f, h1, hp, hfa, hpf, fun a ha => sub a (by simp [ha]), fun ys hy => ?_⟩
  have em : mns (upd H p (.lst ys)) O = mns H O := by
    funext a
    by_cases ha : a ∈ O
    · rw [mns_in ha, mns_in ha]
    · rw [mns_out ha, mns_out ha, upd_ne (fun z => ha (by rw [z]; exact hpO))]
  refine ⟨by rw [em]; exact e.r0, by rw [em]; exact e.j, e.fr, fun a ha => ?_, ?_⟩
  · by_cases q : a = p
    · rw [q]; exact ⟨ys, upd_same⟩
    · rw [upd_ne q]; exact e.dm a ha
  · have hσ : σ.set i (some (.ref p)) = σ := by
      obtain ⟨hlt, e1⟩ := List.getElem?_eq_some_iff.mp h1
      rw [← e1]
      exact List.set_getElem_self hlt
    have := h4 O (upd H p (.lst ys)) (some (.ref p)) (some (.o (.list es))) (p :: f) (fun y t g q z => ?_) ⟨.ref p, rfl, .lst upd_same hy⟩
    · rw [hσ] at this
      exact ⟨_, this, nd, sub⟩
    · cases t with
      | none => exact z
      | some t =>
        cases t with
        | v d => exact ⟨z.1, z.2.elim fun v hv => ⟨v, hv.1, by rw [em]; exact hv.2⟩⟩
        | o d =>
          refine z.elim fun v hv => ⟨v, hv.1, hv.2.up (fun _ _ s => sqT_upd hp s) fun a ha o ho => ?_⟩
          have : a ≠ p := fun w => by
            subst w
            have hm := q a ha
            rcases List.mem_append.mp hm with u | u
            · exact (List.nodup_append.mp nd).2.2 a u a (by simp) rfl
            · exact (List.nodup_append.mp n2).2.2 a (by simp) a u rfl
          rw [upd_ne this]
          exact ho
        | r y => exact z
/-- from now on this list is not written -/
theorem Env.freeze (e : Env c H0 O H σ Γ) {i : Nat} {d : PyData} (h : Γ[i]? = some (some (.o d))) : ∃ O', Env c H0 O' H σ (Γ.set i (some (.v d))) ∧ Same (mns H O) (mns H O') := by
  obtain ⟨fp, hr, nd, sub⟩ := e.rep
  obtain ⟨x, f, pre, post, h1, h2, h3, h4⟩ := hr.nth h
  obtain ⟨v, hv, b⟩ := h2
  subst hv
  subst h3
  have n2 := (List.nodup_append.mp nd).2.1
  have dis : ∀ a ∈ pre ++ post, a ∉ f := fun a ha hf => by
    rcases List.mem_append.mp ha with u | u
    · exact (List.nodup_append.mp nd).2.2 a u a (by simp [hf]) rfl
    · exact (List.nodup_append.mp n2).2.2 a hf a u rfl
  have hm : ∀ a, a ∈ O.filter (fun a => !decide (a ∈ f)) ↔ a ∈ O ∧ a ∉ f := fun a => by simp [List.mem_filter]
  have sm : Same (mns H O) (mns H (O.filter fun a => !decide (a ∈ f))) := mns_sub fun a ha => ((hm a).mp ha).1
  refine ⟨O.filter fun a => !decide (a ∈ f), ⟨e.r0.tr (Rr.same sm), e.j.same sm, fun a ha => e.fr a ((hm a).mp ha).1, fun a ha => e.dm a ((hm a).mp ha).1, ?_⟩, sm⟩
  have hσ : σ.set i (some v) = σ := by
    obtain ⟨hlt, e1⟩ := List.getElem?_eq_some_iff.mp h1
    rw [← e1]
    exact List.set_getElem_self hlt
  have hb : Bo c (mns H (O.filter fun a => !decide (a ∈ f))) v d := by
    refine Fo.bo (fun a ha => e.okO a (sub a (by simp [ha]))) (b.up (fun a xs s => sqT_mns (fun b' hb' => e.dm b' ((hm b').mp hb').1) s) fun a ha o ho => ?_)
    rw [mns_out fun z => ((hm a).mp z).2 ha]
    exact ho
  have := h4 (O.filter fun a => !decide (a ∈ f)) H (some v) (some (.v d)) [] (fun y t g q z => ?_) ⟨rfl, v, rfl, hb⟩
  · rw [hσ] at this
    exact ⟨_, this, nd.sublist (by simp), fun a ha => (hm a).mpr ⟨sub a (by simp at ha ⊢; rcases ha with w | w <;> simp [w]), dis a (by simpa using ha)⟩⟩
  · cases t with
    | none => exact z
    | some t =>
      cases t with
      | v d => exact ⟨z.1, z.2.elim fun v hv => ⟨v, hv.1, hv.2.same sm⟩⟩
      | o d => exact z
      | r y => exact z
/-- a later entry is as good as an earlier one -/
theorem Env.base (e : Env c H0 O H σ Γ) : Env c (mns H O) O H σ Γ := ⟨Rr.rf, e.j, fun a ha => mns_in ha, e.dm, e.rep⟩
theorem Env.fromB {O1 : List Addr} {σ1 : L2.St} {Γ1 : List (Option Rs)} (e : Env c H0 O H σ Γ) (e1 : Env c (mns H O) O1 H1 σ1 Γ1) : Env c H0 O1 H1 σ1 Γ1 :=
  ⟨e.r0.tr e1.r0, e1.j, (fun a ha => by
    have h1 := e1.fr a ha
    cases h : H0 a with
    | none => rfl
    | some o =>
      have k : okA c a := fun st l q z => by
        obtain ⟨ns, x, k, g1, _⟩ := e.j st l q
        rw [← z, h1] at g1
        cases g1
      have := e.r0.1 a o k h
      rw [h1] at this
      cases this), e1.dm, e1.rep⟩
end Lm

namespace Lm
open PySem PySem.Spec PyProof.Rows L2
section
variable {X : Cx} {H : Hp}
/-- a new tuple: its object is known -/
def tupObj (us : List Value) : Obj := { cls := .type "tuple", data := .seq us.toArray }
def NewT (H : Hp) (xs : List V) (Q : VK) : Prop := ∀ p o, o.dict = none → H p = none → Q (.ref p) (upd H p (.frz o (.tup xs)))
theorem newT {pins : List (Addr × Obj)} {σ : L2.St} {s : Shared} {xs : List V} {us : List Value} {Q : VK} (I : Inv X pins σ H s) (r : Vals xs us) (z : xs.length ≤ sizeLine) (q : NewT H xs Q) :
    EP X pins σ Q (.ref s.heap.objs.size) { s with heap := s.heap.push { cls := .type "tuple", data := .seq us.toArray } } := by
  refine ⟨.ref s.heap.objs.size, upd H s.heap.objs.size (.frz { cls := .type "tuple", data := .seq us.toArray } (.tup xs)), I.laid (t' := s.toks) (fun b u e => Heap.get?_push_of_some _ e) (Nat.le_refl _) ?_, rfl, q _ _ rfl (I.hok.fresh (Nat.le_refl _))⟩
  exact ⟨Heap.get?_push_size _ rfl, z, us, r, ⟨_, Heap.get?_push_size _ rfl, rfl, _, rfl⟩⟩
def tTupN (t : TA) : TE := fun σ H Q => t σ H fun xs H1 => xs.length ≤ sizeLine ∧ NewT H1 xs Q
theorem pe_tupN {es : List Expr} {t : TA} {pos : Pos} {x1} (h : PA X es t) : PE X (.Tuple es x1 pos) (tTupN t) := by
  refine ⟨fun pins s σ H Q I hq => ?_⟩
  refine wpAny_Tuple_spliced (thn (h.run pos pins s σ H _ I hq) fun us s1 ⟨xs, H1, I1, r, z, q⟩ => ⟨by rw [← r.length]; exact z, ?_⟩)
  exact newT I1 r z q
/-- tuple(list), tuple(tuple) -/
def rTuple (K : PySem.W.Frag) : List V → Hp → VK → Prop := fun xs H Q => ∃ p ys, xs = [.ref p] ∧ ((SqL K H p ys ∧ NewT H ys Q) ∨ (SqT K H p ys ∧ Q (.ref p) H))
theorem cr_tuple : CallR X (.type "tuple") (rTuple X.K) := by
  intro pins s σ H xs us Q I r h
  obtain ⟨p, ys, rfl, h⟩ := h
  obtain ⟨u, rfl, rx⟩ := vals1 r
  cases rx
  rcases h with ⟨hq, q⟩ | ⟨hq, q⟩
  · obtain ⟨its, r', pl, hz⟩ := I.list hq
    have hlen := r'.length
    refine call_tuple_list pl.isList (fun h' kp => ?_) (by simp only [List.size_toArray] <;> omega)
    have I1 : Inv X pins σ H { s with heap := h' } := I.kept (t' := s.toks) kp
    exact newT I1 r' hz q
  · obtain ⟨its, r', pl, hz⟩ := I.tuple hq
    exact call_tuple_same pl ⟨.ref p, H, I, rfl, q⟩
/-- t + u -/
def rCatN (K : PySem.W.Frag) : R2 := fun x y H Q => ∃ a b xs ys, x = .ref a ∧ y = .ref b ∧ SqT K H a xs ∧ SqT K H b ys ∧ xs.length + ys.length ≤ sizeLine ∧
  (xs = [] → Q (.ref b) H) ∧ (xs ≠ [] → ys = [] → Q (.ref a) H) ∧ (xs ≠ [] → ys ≠ [] → NewT H (xs ++ ys) Q)
theorem op_catN : OpR X (binaryOp .Add) (rCatN X.K) := by
  intro pins s σ H x y v u Q I rx ry h
  obtain ⟨a, b, xs, ys, rfl, rfl, ha, hb, hz, q0, q1, q2⟩ := h
  cases rx
  cases ry
  obtain ⟨its, r1, p1, _⟩ := I.tuple ha
  obtain ⟨its2, r2, p2, _⟩ := I.tuple hb
  by_cases hx : xs = []
  · subst hx
    cases r1
    exact cat_tup0 p1 p2 ⟨.ref b, H, I, rfl, q0 rfl⟩
  · refine HT.cat_tup p1 p2 (fun z => hx (r1.nil_iff.mp z)) (fun z => ⟨.ref a, H, I, rfl, q1 hx (r2.nil_iff.mp z)⟩) (fun z => ?_) (by rw [← r1.length, ← r2.length]; exact hz)
    have := newT (Q := Q) I (r1.append r2) (by rw [List.length_append]; exact hz) (q2 hx (fun w => z (r2.nil_iff.mpr w)))
    exact this
/-- t[lo:hi] -/
def rSlN (K : PySem.W.Frag) : V → Option Int → Option Int → Hp → VK → Prop := fun x lo hi H Q => ∃ a xs, x = .ref a ∧ SqT K H a xs ∧
  (HT.sIx xs.length 0 lo = 0 ∧ HT.sIx xs.length xs.length hi = xs.length → Q (.ref a) H) ∧ (¬ (HT.sIx xs.length 0 lo = 0 ∧ HT.sIx xs.length xs.length hi = xs.length) → NewT H (cutV xs lo hi) Q)
theorem sl_tupN : SlR X (rSlN X.K) := by
  intro pins s σ H x v vl vu lo hi sl Q I rx hs pl pu h
  obtain ⟨a, xs, rfl, hx, q1, q2⟩ := h
  cases rx
  obtain ⟨its, r, ht, hz⟩ := I.tuple hx
  have hlen : its.toArray.size = xs.length := by rw [List.size_toArray]; exact r.length.symm
  refine ⟨"tuple", _, PyProof.Rows.slot_tuple_getitem.lookup, ht.typeIs, ?_⟩
  by_cases hw : HT.sIx xs.length 0 lo = 0 ∧ HT.sIx xs.length xs.length hi = xs.length
  · exact getItem_tuple_whole ht hs pl pu (by rw [hlen]; exact hw) ⟨.ref a, H, I, rfl, q1 hw⟩
  · refine HT.getItem_tuple_cut ht hs pl pu (by rw [hlen]; exact hw) ?_ (by rw [hlen]; exact hz)
    rw [hlen]
    have := newT (Q := Q) I ((r.drop (HT.sIx xs.length 0 lo)).take (HT.sIx xs.length xs.length hi - HT.sIx xs.length 0 lo)) (Nat.le_trans (cutV_length xs lo hi) hz) (q2 hw)
    exact this
/-- a method of a tuple -/
def tTM (K : PySem.W.Frag) (r : V → List V → Hp → VK → Prop) (to : TE) (t : TA) : TE := fun σ H Q => to σ H fun x H1 => (∃ a xs, x = .ref a ∧ TpN K H1 a xs) ∧ t σ H1 fun vs H2 => r x vs H2 Q
theorem pe_tm {name : Str} {id : String} {r : V → List V → Hp → VK → Prop} {o e : Expr} {es : List Expr} {to : TE} {t : TA} {apos cpos : Pos} (slot : Slot "tuple" name id) (hty : typeOf (.builtin id) = pure (.type "method_descriptor")) (hm : MtR X id r) (ho : PE X o to) (ha : PA X (e :: es) t)
    (hbase : attributeBase o name X.env (eval o X.env) = eval o X.env := by rfl)
    (hfew : ((backTo cpos (starEach (e :: es) X.env)).all (fun x => !x.1) && (backToKw cpos (keywordEach [] X.env)).all (fun x => x.1.isSome)
      && decide ((e :: es).length + ([] : List Keyword).length + (if ([] : List Keyword).isEmpty then 0 else 1) < 30)) = true := by rfl)
    (hline : (apos.endLine == cpos.line) = true := by rfl) (hs : starEach (e :: es) X.env = (false, eval e X.env) :: starEach es X.env := by rfl) (hplain : (backTo cpos (starEach es X.env)).any (·.1) = false := by rfl) :
    PE X (.Call (.Attribute o name apos) (e :: es) [] cpos) (tTM X.K r to t) := by
  refine ⟨fun pins s σ H Q I h => ?_⟩
  refine wpAny_Call_method_late hbase hfew hline rfl (thn (ho.run pins s σ H _ I h) fun v s1 ⟨x, H1, I1, r1, ty, q1⟩ => ?_)
  obtain ⟨a, xs, rfl, ht⟩ := ty
  cases r1
  have hty2 : s1.TypeIs (.ref a) "tuple" ∧ ∀ b, Value.ref a = .ref b → ∃ ob, s1.heap.get? b = some ob ∧ ob.dict = none := by
    obtain ⟨its, rv, ⟨ob0, g0, hc0, n0, hd0⟩, _⟩ := I1.tuple ht.sq
    refine ⟨⟨ob0, g0, hc0⟩, fun b e => ?_⟩
    cases e
    rcases ht with ⟨ob, hn, hq⟩ | ⟨ob, its', n, hl, hc, hdn, hd, hz, hv⟩
    · obtain ⟨g, _⟩ := I1.hok a _ hq
      exact ⟨ob, g, hn⟩
    · exact ⟨ob, I1.kIn _ _ hl, hdn⟩
  obtain ⟨h1, h2⟩ := hty2
  refine ⟨"tuple", id, PySem.F.plainAttrs_tuple, slot, hty, h1, h2, ?_⟩
  have hA := ha.run cpos pins s1 σ H1 _ I1 q1
  rw [hs] at hA ⊢
  refine Calls.callWith_builtin (by show (false || (backTo cpos (starEach es X.env)).any (·.1)) = false; rw [hplain] <;> rfl) (Calls.evalArgs_plain ?_)
  exact thn hA fun us s2 ⟨vs, H2, I2, r2, q2⟩ => hm pins s2 σ H2 (.ref a) vs (.ref a) us Q I2 rfl r2 q2
end
end Lm
namespace Lm
open PySem PySem.Spec PyProof.Rows L2
section
variable {X : Cx}
def rCountT (K : PySem.W.Frag) : V → List V → Hp → VK → Prop := fun x xs H Q => ∃ (p : Addr) (ns : List Int) (k : Int), x = .ref p ∧ xs = [.int k] ∧ SqT K H p (ns.map V.int) ∧ Q (.int (ns.count k : Nat)) H
theorem mt_tcount : MtR X "tuple.count" (rCountT X.K) := by
  intro pins s σ H x xs v us Q I rx rxs h
  obtain ⟨p, ns, k, rfl, rfl, hs, q⟩ := h
  cases rx
  obtain ⟨u, rfl, ru⟩ := rxs.one
  obtain ⟨t, rfl⟩ := ru
  obtain ⟨its, rv, ⟨⟨cls, dd, data, sl⟩, ho, hc, n, hd⟩, hlen⟩ := I.tuple hs
  simp only at hc hd
  subst hc hd
  have hi := ints_of_vals rv
  refine call_meets PySem.F.slot_tuple_count ⟨_, ho, rfl⟩ PySem.F.entry_tuple_count (PySem.F.args_tuple_count_2 _ _)
    (SeqAt.tuple_countAt p its.toArray n dd sl (.int k t) (eqk k)) ⟨ho, fun y hy => (eqk_gives hi y (by simpa using hy)).at _ _, ?_⟩
  have ec : its.toArray.toList.countP (eqk k) = ns.count k := eqk_count hi
  refine ⟨.int (ns.count k : Nat), H, I.tok _, ⟨s.toks, ?_⟩, q⟩
  show Value.int ((its.toArray.toList.countP (eqk k) : Nat) : Int) s.toks = Value.int ((ns.count k : Nat) : Int) s.toks
  rw [ec]
end
end Lm

namespace Lm
open PySem PySem.Spec PyProof.Rows L2
variable {c : Ct} {H H' H0 H1 H2 H3 : Hp} {O : List Addr} {σ : L2.St} {Γ : List (Option Rs)}

/-- what an expression gives: a value that stays, a new list, something to be read at once -/
inductive Kd | v | o | b
def Res (c : Ct) (O : List Addr) (H H2 : Hp) (v : V) (d : PyData) : Kd → Prop
  | .v => Bo c (mns H2 O) v d
  | .o => ∃ fp, Fo c H2 v d fp ∧ fp.Nodup ∧ ∀ a ∈ fp, H a = none
  | .b => Bo c H2 v d
theorem Res.bo {v : V} {d : PyData} {k : Kd} (e : Env c H0 O H σ Γ) (h : Res c O H H2 v d k) : Bo c H2 v d := by
  cases k with
  | v => exact Bo.same mns_same h
  | o =>
    obtain ⟨fp, f, nd, new⟩ := h
    exact f.bo fun a ha => okA.fresh e.jH (new a ha)
  | b => exact h
theorem Res.on {v : V} {d : PyData} {k : Kd} (e : Env c H0 O H σ Γ) (r1 : Rr c H H2) (r : Rr c H2 H3) (h : Res c O H H2 v d k) : Res c O H H3 v d k := by
  have e2 := e.on r1
  cases k with
  | v => exact Bo.mono e2.j (r.mns e2.j e2.okO) h
  | o =>
    obtain ⟨fp, f, nd, new⟩ := h
    exact ⟨fp, f.up (fun _ _ s => r.tup e2.jH s) (fun a ha o q => r.1 a o (okA.fresh e.jH (new a ha)) q), nd, new⟩
  | b => exact Bo.mono e2.jH r h
/-- fresh behind is fresh before -/
theorem Res.back {v : V} {d : PyData} {k : Kd} (e : Env c H0 O H σ Γ) (r1 : Rr c H H2) (h : Res c O H2 H3 v d k) : Res c O H H3 v d k := by
  cases k with
  | v => exact h
  | o =>
    obtain ⟨fp, f, nd, new⟩ := h
    exact ⟨fp, f, nd, fun a ha => r1.back e.jH (new a ha)⟩
  | b => exact h
theorem Bo.flatM {v : V} {d : PyData} (e : Env c H0 O H σ Γ) (r : Rr c H H2) (q : flatD d = true) (h : Bo c H2 v d) : Bo c (mns H2 O) v d :=
  h.flatTo (fun a xs s => sqT_mns (fun b hb => (e.on r).dm b hb) s) q

def Ev (c : Ct) (te : TE) (Γ : List (Option Rs)) (k : Kd) (d : PyData) : Prop :=
  ∀ H0 O H σ, Env c H0 O H σ Γ → ∀ Q : VK, (∀ v H2, Rr c H H2 → Res c O H H2 v d k → Q v H2) → te σ H Q
/-- .. one of several -/
def EvN (c : Ct) (te : TE) (Γ : List (Option Rs)) (k : Kd) (P : PyData → Prop) : Prop :=
  ∀ H0 O H σ, Env c H0 O H σ Γ → ∀ Q : VK, (∀ v d H2, P d → Rr c H H2 → Res c O H H2 v d k → Q v H2) → te σ H Q
def EvT (c : Ct) (tt : TT) (Γ : List (Option Rs)) (b : Bool) : Prop :=
  ∀ H0 O H σ, Env c H0 O H σ Γ → ∀ Q : Bool → Hp → Prop, (∀ H2, Rr c H H2 → Q b H2) → tt σ H Q
def EvTN (c : Ct) (tt : TT) (Γ : List (Option Rs)) : Prop :=
  ∀ H0 O H σ, Env c H0 O H σ Γ → ∀ Q : Bool → Hp → Prop, (∀ b H2, Rr c H H2 → Q b H2) → tt σ H Q
/-- arguments, to be read; (kv) each a value that stays -/
def EvA (c : Ct) (ta : TA) (Γ : List (Option Rs)) (kv : Bool) (ds : List PyData) : Prop :=
  ∀ H0 O H σ, Env c H0 O H σ Γ → ∀ Q : List V → Hp → Prop, (∀ vs H2, Rr c H H2 → BoAll c (if kv then mns H2 O else H2) vs ds → Q vs H2) → ta σ H Q
section
variable {te ta tb tx : TE} {tt tu : TT} {tr : TA} {k ka kb : Kd} {d x y z : PyData} {i j : Int} {a b : Bool} {kv : Bool} {ds : List PyData}
theorem Ev.n (h : Ev c te Γ k d) : EvN c te Γ k (fun x => x = d) := fun H0 O H σ e Q q => h H0 O H σ e Q fun v H2 r s => q v d H2 rfl r s
theorem EvN.det (h : EvN c te Γ k (fun x => x = d)) : Ev c te Γ k d := fun H0 O H σ e Q q => h H0 O H σ e Q fun v d H2 p r s => by subst p; exact q v H2 r s
theorem EvN.imp {P P' : PyData → Prop} (h : EvN c te Γ k P) (i : ∀ d, P d → P' d) : EvN c te Γ k P' := fun H0 O H σ e Q q => h H0 O H σ e Q fun v d H2 p => q v d H2 (i d p)
theorem Ev.to (h : Ev c te Γ k x) (e : x = y) : Ev c te Γ k y := e ▸ h
theorem EvT.to (h : EvT c tt Γ a) (e : a = b) : EvT c tt Γ b := e ▸ h
/-- to be read only -/
theorem Ev.rd (h : Ev c te Γ k d) : Ev c te Γ .b d := fun H0 O H σ e Q q => h H0 O H σ e Q fun v H2 r s => q v H2 r (Res.bo e s)
/-- flat data stay -/
theorem Ev.fl (h : Ev c te Γ k d) (f : flatD d = true) : Ev c te Γ .v d := fun H0 O H σ e Q q => h H0 O H σ e Q fun v H2 r s => q v H2 r (Bo.flatM e r f (Res.bo e s))
theorem Ev.fo (h : Ev c te Γ k d) (f : flatD d = true) : Ev c te Γ .o d := fun H0 O H σ e Q q => h H0 O H σ e Q fun v H2 r s => q v H2 r ⟨[], .leaf f (Res.bo e s), List.nodup_nil, fun _ h => nomatch h⟩
theorem EvN.fo {P : PyData → Prop} (h : EvN c te Γ k P) (f : ∀ d, P d → flatD d = true) : EvN c te Γ .o P := fun H0 O H σ e Q q => h H0 O H σ e Q fun v d H2 p r s => q v d H2 p r ⟨[], .leaf (f d p) (Res.bo e s), List.nodup_nil, fun _ h => nomatch h⟩
theorem EvN.fl {P : PyData → Prop} (h : EvN c te Γ k P) (f : ∀ d, P d → flatD d = true) : EvN c te Γ .v P := fun H0 O H σ e Q q => h H0 O H σ e Q fun v d H2 p r s => q v d H2 p r (Bo.flatM e r (f d p) (Res.bo e s))

/-! ### leaves -/
theorem d_int : Ev c (tC (.int i)) Γ .v (.int i) := fun H0 O H σ e Q q => q _ H Rr.rf (.int i)
theorem d_bl : Ev c (tC (.bl a)) Γ .v (.bool a) := fun H0 O H σ e Q q => q _ H Rr.rf (.bl a)
theorem d_str {s : Str} : Ev c (tC (.str s)) Γ .v (.str s) := fun H0 O H σ e Q q => q _ H Rr.rf (.str s)
theorem d_non : Ev c (tC .non) Γ .v .none := fun H0 O H σ e Q q => q _ H Rr.rf .non
theorem d_var {n : Nat} (h : Γ[n]? = some (some (.v d))) : Ev c (tVar n) Γ .v d := fun H0 O H σ e Q q => by
  obtain ⟨v, hv, b⟩ := e.slotV h
  exact ⟨v, hv, q v H Rr.rf b⟩
theorem d_varO {n : Nat} (h : Γ[n]? = some (some (.o d))) : Ev c (tVar n) Γ .b d := fun H0 O H σ e Q q => by
  obtain ⟨v, fp, hv, f, nd, sub⟩ := e.slotO h
  exact ⟨v, hv, q v H Rr.rf (f.bo fun a ha => e.okO a (sub a ha))⟩
/-! ### two operands -/
theorem d_bin {r : R2} (ha : Ev c ta Γ ka x) (hb : Ev c tb Γ kb y)
    (hr : ∀ H O v u (Q : VK), Bo c H v x → Bo c H u y → (∀ v' H2, Rr c H H2 → Bo c (mns H2 O) v' z → Q v' H2) → r v u H Q) : Ev c (tOp r ta tb) Γ .v z := fun H0 O H σ e Q q =>
  ha H0 O H σ e _ fun v H1 r1 s1 => hb H0 O H1 σ (e.on r1) _ fun u H2 r2 s2 =>
    hr H2 O v u Q (Res.bo e (Res.on e r1 r2 s1)) (Res.bo (e.on r1) s2) fun v' H3 r3 b => q v' H3 ((r1.tr r2).tr r3) b
theorem d_I {C : Int → Int → Prop} {g : Int → Int → V} {w : V} (ha : Ev c ta Γ ka (.int i)) (hb : Ev c tb Γ kb (.int j)) (hc : C i j) (hw : g i j = w) (hz : ∀ H, Bo c H w z) : Ev c (tOp (rI C g) ta tb) Γ .v z :=
  d_bin ha hb fun H O v u Q bv bu q => ⟨i, j, bv.int', bu.int', hc, q _ H Rr.rf (hw ▸ hz _)⟩
theorem d_I0 {g : Int → Int → V} {w : V} (ha : Ev c ta Γ ka (.int i)) (hb : Ev c tb Γ kb (.int j)) (hw : g i j = w) (hz : ∀ H, Bo c H w z) : Ev c (tOp (rI0 g) ta tb) Γ .v z :=
  d_bin ha hb fun H O v u Q bv bu q => ⟨i, j, bv.int', bu.int', q _ H Rr.rf (hw ▸ hz _)⟩
theorem d_add (ha : Ev c ta Γ ka (.int i)) (hb : Ev c tb Γ kb (.int j)) : Ev c (tOp (rI0 fun i j => .int (i + j)) ta tb) Γ .v (.int (i + j)) := d_I0 ha hb rfl fun _ => .int _
theorem d_sub (ha : Ev c ta Γ ka (.int i)) (hb : Ev c tb Γ kb (.int j)) : Ev c (tOp (rI0 fun i j => .int (i - j)) ta tb) Γ .v (.int (i - j)) := d_I0 ha hb rfl fun _ => .int _
theorem d_lt (ha : Ev c ta Γ ka (.int i)) (hb : Ev c tb Γ kb (.int j)) : Ev c (tOp (rI0 fun i j => .bl (decide (i < j))) ta tb) Γ .v (.bool (decide (i < j))) := d_I0 ha hb rfl fun _ => .bl _
theorem d_le (ha : Ev c ta Γ ka (.int i)) (hb : Ev c tb Γ kb (.int j)) : Ev c (tOp (rI0 fun i j => .bl (decide (i ≤ j))) ta tb) Γ .v (.bool (decide (i ≤ j))) := d_I0 ha hb rfl fun _ => .bl _
theorem d_gt (ha : Ev c ta Γ ka (.int i)) (hb : Ev c tb Γ kb (.int j)) : Ev c (tOp (rI0 fun i j => .bl (decide (j < i))) ta tb) Γ .v (.bool (decide (j < i))) := d_I0 ha hb rfl fun _ => .bl _
theorem d_ge (ha : Ev c ta Γ ka (.int i)) (hb : Ev c tb Γ kb (.int j)) : Ev c (tOp (rI0 fun i j => .bl (decide (j ≤ i))) ta tb) Γ .v (.bool (decide (j ≤ i))) := d_I0 ha hb rfl fun _ => .bl _
theorem d_mul (ha : Ev c ta Γ ka (.int i)) (hb : Ev c tb Γ kb (.int j)) (h : CMul i j) : Ev c (tOp (rI CMul fun i j => .int (i * j)) ta tb) Γ .v (.int (i * j)) := d_I ha hb h rfl fun _ => .int _
theorem d_fdiv (ha : Ev c ta Γ ka (.int i)) (hb : Ev c tb Γ kb (.int j)) (h : CDiv i j) : Ev c (tOp (rI CDiv fun i j => .int (i / j)) ta tb) Γ .v (.int (i / j)) := d_I ha hb h rfl fun _ => .int _
theorem d_mod (ha : Ev c ta Γ ka (.int i)) (hb : Ev c tb Γ kb (.int j)) (h : 0 < j) : Ev c (tOp (rI (fun _ j => 0 < j) fun i j => .int (i % j)) ta tb) Γ .v (.int (i % j)) := d_I ha hb h rfl fun _ => .int _
/-- == and != of scalars -/
def scalD : PyData → Option V
  | .none => some .non
  | .bool b => some (.bl b)
  | .int i => some (.int i)
  | .str s => some (.str s)
  | _ => none
theorem Bo.scal {v w : V} (h : Bo c H v d) (e : scalD d = some w) : v = w := by
  cases h with
  | non => exact Option.some.inj e
  | bl _ => exact Option.some.inj e
  | int _ => exact Option.some.inj e
  | str _ => exact Option.some.inj e
  | lst _ _ _ => cases e
  | tup _ _ => cases e
theorem d_eq {v w : V} (ha : Ev c ta Γ ka x) (hb : Ev c tb Γ kb y) (hx : scalD x = some v) (hy : scalD y = some w) (hs : scal v w = true) (hz : decide (v = w) = a) : Ev c (tOp rEq ta tb) Γ .v (.bool a) :=
  d_bin ha hb fun H O v' u' Q bv bu q => ⟨by rw [bv.scal hx, bu.scal hy]; exact hs, by rw [bv.scal hx, bu.scal hy, hz]; exact q _ H Rr.rf (.bl _)⟩
theorem d_ne {v w : V} (ha : Ev c ta Γ ka x) (hb : Ev c tb Γ kb y) (hx : scalD x = some v) (hy : scalD y = some w) (hs : scal v w = true) (hz : (!decide (v = w)) = a) : Ev c (tOp rNe ta tb) Γ .v (.bool a) :=
  d_bin ha hb fun H O v' u' Q bv bu q => ⟨by rw [bv.scal hx, bu.scal hy]; exact hs, by rw [bv.scal hx, bu.scal hy, hz]; exact q _ H Rr.rf (.bl _)⟩
theorem decI {i j : Int} : decide (V.int i = V.int j) = decide (i = j) := by
  by_cases h : i = j
  · subst h; simp
  · rw [decide_eq_false h, decide_eq_false (fun e => h (V.int.inj e))]
theorem d_eqI (ha : Ev c ta Γ ka (.int i)) (hb : Ev c tb Γ kb (.int j)) : Ev c (tOp rEq ta tb) Γ .v (.bool (decide (i = j))) := d_eq ha hb rfl rfl rfl decI
theorem d_neI (ha : Ev c ta Γ ka (.int i)) (hb : Ev c tb Γ kb (.int j)) : Ev c (tOp rNe ta tb) Γ .v (.bool (!decide (i = j))) := d_ne ha hb rfl rfl rfl (by rw [decI])
/-- == of data -/
theorem d_eqD (ha : Ev c ta Γ ka x) (hb : Ev c tb Γ kb y) (hx : SeqAt.shaped x = true) (hy : SeqAt.shaped y = true) : Ev c (tOp (rEqD c.K) ta tb) Γ .v (.bool (PyData.eqv x y)) :=
  d_bin ha hb fun H O v u Q bv bu q => ⟨x, y, bv.dp, bu.dp, hx, hy, q _ H Rr.rf (.bl _)⟩
theorem d_neD (ha : Ev c ta Γ ka x) (hb : Ev c tb Γ kb y) (hx : SeqAt.shaped x = true) (hy : SeqAt.shaped y = true) : Ev c (tOp (rNeD c.K) ta tb) Γ .v (.bool (!PyData.eqv x y)) :=
  d_bin ha hb fun H O v u Q bv bu q => ⟨x, y, bv.dp, bu.dp, hx, hy, q _ H Rr.rf (.bl _)⟩
def isNoneD : PyData → Bool
  | .none => true
  | _ => false
theorem Bo.isN {v : V} (h : Bo c H v d) : decide (v = V.non) = isNoneD d := by
  cases h <;> simp [isNoneD]
/-- is None -/
theorem d_isN (ha : Ev c ta Γ ka x) : Ev c (tOp (fun x y H Q => y = .non ∧ Q (.bl (decide (x = .non))) H) ta (tC .non)) Γ .v (.bool (isNoneD x)) :=
  d_bin ha d_non fun H O v u Q bv bu q => ⟨bu.non', by rw [bv.isN]; exact q _ H Rr.rf (.bl _)⟩
theorem d_notN (ha : Ev c ta Γ ka x) : Ev c (tOp (fun x y H Q => y = .non ∧ Q (.bl (!decide (x = .non))) H) ta (tC .non)) Γ .v (.bool (!(isNoneD x))) :=
  d_bin ha d_non fun H O v u Q bv bu q => ⟨bu.non', by rw [bv.isN]; exact q _ H Rr.rf (.bl _)⟩
theorem inV_ints {i : Int} {ns : List Int} : inV (.int i) (ns.map V.int) = decide (i ∈ ns) := by
  induction ns with
  | nil => rfl
  | cons n ns ih =>
    have e : inV (.int i) ((n :: ns).map V.int) = (eqV (.int n) (.int i) || inV (.int i) (ns.map V.int)) := rfl
    rw [e, ih]
    show (decide (n = i) || decide (i ∈ ns)) = _
    by_cases h : n = i
    · subst h; simp
    · have h' : ¬ i = n := fun e => h e.symm
      simp [h, h']
theorem flatV_ints (ns : List Int) : (ns.map V.int).all flatV = true := by
  rw [List.all_map]
  exact List.all_eq_true.mpr fun _ _ => rfl
/-- in a tuple or list of ints -/
theorem d_inT {neg : Bool} {ns : List Int} (ha : Ev c ta Γ ka (.int i)) (hb : Ev c tb Γ kb (.tuple (ns.map .int))) : Ev c (tOp (rIn c.K neg) ta tb) Γ .v (.bool (if neg then !decide (i ∈ ns) else decide (i ∈ ns))) :=
  d_bin ha hb fun H O v u Q bv bu q => by
    obtain ⟨p, xs, rfl, s, al⟩ := bu.tup'
    have := al.ints
    subst this
    rw [bv.int']
    exact ⟨p, _, rfl, .inr s.sq, rfl, flatV_ints ns, by rw [inV_ints]; exact q _ H Rr.rf (.bl _)⟩
theorem d_inL {neg : Bool} {ns : List Int} (ha : Ev c ta Γ ka (.int i)) (hb : Ev c tb Γ kb (.list (ns.map .int))) : Ev c (tOp (rIn c.K neg) ta tb) Γ .v (.bool (if neg then !decide (i ∈ ns) else decide (i ∈ ns))) :=
  d_bin ha hb fun H O v u Q bv bu q => by
    obtain ⟨p, xs, rfl, _, s, al⟩ := bu.lst'
    have := al.ints
    subst this
    rw [bv.int']
    exact ⟨p, _, rfl, .inl s, rfl, flatV_ints ns, by rw [inV_ints]; exact q _ H Rr.rf (.bl _)⟩
/-- an item -/
theorem atI_bo {v : List V} (h : BoAll c H v ds) (e : atI ds i = some d) : ∃ x, atI v i = some x ∧ Bo c H x d := by
  unfold atI at e ⊢
  rw [h.len]
  cases q : ixN ds.length i with
  | none => rw [q] at e; cases e
  | some n =>
    rw [q] at e
    exact h.gets e
theorem d_ixT (ha : Ev c ta Γ ka (.tuple ds)) (hb : Ev c tb Γ kb (.int i)) (he : atI ds i = some d) (hf : flatD d = true) : Ev c (tOp (rIxT c.K) ta tb) Γ .v d := fun H0 O H σ e Q q =>
  ha H0 O H σ e _ fun v H1 r1 s1 => hb H0 O H1 σ (e.on r1) _ fun u H2 r2 s2 => by
    obtain ⟨p, xs, rfl, s, al⟩ := (Res.bo e (Res.on e r1 r2 s1)).tup'
    obtain ⟨x, hx, bx⟩ := atI_bo al he
    exact ⟨p, xs, i, x, rfl, (Res.bo (e.on r1) s2).int', s.sq, hx, q x H2 (r1.tr r2) (Bo.flatM e (r1.tr r2) hf bx)⟩
theorem d_ixL (ha : Ev c ta Γ ka (.list ds)) (hb : Ev c tb Γ kb (.int i)) (he : atI ds i = some d) (hf : flatD d = true) : Ev c (tOp (rIxL c.K) ta tb) Γ .v d := fun H0 O H σ e Q q =>
  ha H0 O H σ e _ fun v H1 r1 s1 => hb H0 O H1 σ (e.on r1) _ fun u H2 r2 s2 => by
    obtain ⟨p, xs, rfl, _, s, al⟩ := (Res.bo e (Res.on e r1 r2 s1)).lst'
    obtain ⟨x, hx, bx⟩ := atI_bo al he
    exact ⟨p, xs, i, x, rfl, (Res.bo (e.on r1) s2).int', s, hx, q x H2 (r1.tr r2) (Bo.flatM e (r1.tr r2) hf bx)⟩
/-- an item that is a list -/
theorem d_ixLb (ha : Ev c ta Γ ka (.list ds)) (hb : Ev c tb Γ kb (.int i)) (he : atI ds i = some d) : Ev c (tOp (rIxL c.K) ta tb) Γ .b d := fun H0 O H σ e Q q =>
  ha H0 O H σ e _ fun v H1 r1 s1 => hb H0 O H1 σ (e.on r1) _ fun u H2 r2 s2 => by
    obtain ⟨p, xs, rfl, _, s, al⟩ := (Res.bo e (Res.on e r1 r2 s1)).lst'
    obtain ⟨x, hx, bx⟩ := atI_bo al he
    exact ⟨p, xs, i, x, rfl, (Res.bo (e.on r1) s2).int', s, hx, q x H2 (r1.tr r2) bx⟩
/-! ### truth -/
theorem d_notV (ha : Ev c ta Γ ka (.bool a)) : Ev c (tNotV ta) Γ .v (.bool (!a)) := fun H0 O H σ e Q q =>
  ha H0 O H σ e _ fun v H1 r1 s1 => ⟨a, (Res.bo e s1).bl', q _ H1 r1 (.bl _)⟩
theorem d_andV (ha : Ev c ta Γ ka (.bool a)) (hb : a = true → Ev c tb Γ .v (.bool b)) : Ev c (tAndV ta tb) Γ .v (.bool (a && b)) := fun H0 O H σ e Q q =>
  ha H0 O H σ e _ fun v H1 r1 s1 => ⟨a, (Res.bo e s1).bl', by
    cases a with
    | true =>
      refine iteT (hb rfl H0 O H1 σ (e.on r1) _ fun u H2 r2 s2 => ?_)
      rw [(Res.bo (e.on r1) s2).bl']
      exact q _ H2 (r1.tr r2) (.bl _)
    | false => exact iteF (q _ H1 r1 (.bl _))⟩
theorem d_orV (ha : Ev c ta Γ ka (.bool a)) (hb : a = false → Ev c tb Γ .v (.bool b)) : Ev c (tOrV ta tb) Γ .v (.bool (a || b)) := fun H0 O H σ e Q q =>
  ha H0 O H σ e _ fun v H1 r1 s1 => ⟨a, (Res.bo e s1).bl', by
    cases a with
    | false =>
      refine iteF (hb rfl H0 O H1 σ (e.on r1) _ fun u H2 r2 s2 => ?_)
      rw [(Res.bo (e.on r1) s2).bl']
      exact q _ H2 (r1.tr r2) (.bl _)
    | true => exact iteT (q _ H1 r1 (.bl _))⟩
theorem t_test (h : Ev c te Γ k (.bool a)) : EvT c (tTest te) Γ a := fun H0 O H σ e Q q => h H0 O H σ e _ fun v H2 r s => ⟨a, (Res.bo e s).bl', q H2 r⟩
theorem t_B (h : Ev c te Γ k (.bool a)) : EvT c (tB te) Γ a := fun H0 O H σ e Q q => h H0 O H σ e _ fun v H2 r s => ⟨a, (Res.bo e s).bl', q H2 r⟩
theorem t_not (h : EvT c tt Γ a) : EvT c (tNot tt) Γ (!a) := fun H0 O H σ e Q q => h H0 O H σ e _ fun H2 r => q H2 r
theorem t_and (h : EvT c tt Γ a) (g : a = true → EvT c tu Γ b) : EvT c (tAnd tt tu) Γ (a && b) := fun H0 O H σ e Q q => h H0 O H σ e _ fun H2 r => by
  cases a with
  | true => exact iteT (g rfl H0 O H2 σ (e.on r) _ fun H3 r3 => q H3 (r.tr r3))
  | false => exact iteF (q H2 r)
theorem t_or (h : EvT c tt Γ a) (g : a = false → EvT c tu Γ b) : EvT c (tOr tt tu) Γ (a || b) := fun H0 O H σ e Q q => h H0 O H σ e _ fun H2 r => by
  cases a with
  | false => exact iteF (g rfl H0 O H2 σ (e.on r) _ fun H3 r3 => q H3 (r.tr r3))
  | true => exact iteT (q H2 r)
theorem t_yes : EvT c tYes Γ true := fun H0 O H σ e Q q => q H Rr.rf
theorem d_if (h : EvT c tt Γ a) (h1 : a = true → Ev c ta Γ k d) (h2 : a = false → Ev c tb Γ k d) : Ev c (tIf tt ta tb) Γ k d := fun H0 O H σ e Q q => h H0 O H σ e _ fun H1 r1 => by
  cases a with
  | true => exact iteT (h1 rfl H0 O H1 σ (e.on r1) _ fun v H2 r2 s => q v H2 (r1.tr r2) (s.back e r1))
  | false => exact iteF (h2 rfl H0 O H1 σ (e.on r1) _ fun v H2 r2 s => q v H2 (r1.tr r2) (s.back e r1))
/-! ### arguments -/
theorem a_nil : EvA c tNil Γ kv [] := fun H0 O H σ e Q q => q [] H Rr.rf .nil
theorem a_cons (h : Ev c te Γ k d) (hr : EvA c tr Γ false ds) : EvA c (tCons te tr) Γ false (d :: ds) := fun H0 O H σ e Q q =>
  h H0 O H σ e _ fun v H1 r1 s1 => hr H0 O H1 σ (e.on r1) _ fun vs H2 r2 s2 => q _ H2 (r1.tr r2) (.cons (Res.bo e (s1.on e r1 r2)) s2)
theorem a_consV (h : Ev c te Γ .v d) (hr : EvA c tr Γ true ds) : EvA c (tCons te tr) Γ true (d :: ds) := fun H0 O H σ e Q q =>
  h H0 O H σ e _ fun v H1 r1 s1 => hr H0 O H1 σ (e.on r1) _ fun vs H2 r2 s2 => q _ H2 (r1.tr r2) (.cons (s1.on e r1 r2) s2)
end
end Lm

namespace Lm
open PySem PySem.Spec PyProof.Rows L2
variable {c : Ct} {H H' H0 H1 H2 H3 : Hp} {O : List Addr} {σ : L2.St} {Γ Γ' : List (Option Rs)}

/-! ### what is walked -/
/-- an item: data, or a tuple made for the target alone -/
inductive Im where
  | d (x : PyData)
  | t (xs : List Im)
mutual
inductive Lo (c : Ct) (F : Hp) (fz : Bool) (H : Hp) : V → Im → Prop
  | leaf {v : V} {d : PyData} : (flatD d = true ∧ Bo c H v d) ∨ (fz = true ∧ Bo c F v d) → Lo c F fz H v (.d d)
  | tup {a : Addr} {xs : List V} {ds : List Im} : SqT c.K H a xs → LoAll c F fz H xs ds → Lo c F fz H (.ref a) (.t ds)
inductive LoAll (c : Ct) (F : Hp) (fz : Bool) (H : Hp) : List V → List Im → Prop
  | nil : LoAll c F fz H [] []
  | cons {v : V} {vs : List V} {d : Im} {ds : List Im} : Lo c F fz H v d → LoAll c F fz H vs ds → LoAll c F fz H (v :: vs) (d :: ds)
end
theorem LoAll.ofFlat {F : Hp} {fz : Bool} : ∀ {v : List V} {d : List PyData}, flatAll d = true → BoAll c H v d → LoAll c F fz H v (d.map Im.d)
  | _, _, _, .nil => .nil
  | _, _, q, .cons a b => by
    have q' : (flatD _ && flatAll _) = true := q
    rw [Bool.and_eq_true] at q'
    exact .cons (.leaf (.inl ⟨q'.1, a⟩)) (LoAll.ofFlat q'.2 b)
theorem LoAll.ofFz {F : Hp} : ∀ {v : List V} {d : List PyData}, BoAll c F v d → LoAll c F true H v (d.map Im.d)
  | _, _, .nil => .nil
  | _, _, .cons a b => .cons (.leaf (.inr ⟨rfl, a⟩)) (LoAll.ofFz b)
theorem LoAll.len {F : Hp} {fz : Bool} : ∀ {v : List V} {d : List Im}, LoAll c F fz H v d → v.length = d.length
  | _, _, .nil => rfl
  | _, _, .cons _ b => by simp [LoAll.len b]
/-- a tuple's parts -/
theorem Lo.parts {F : Hp} {fz : Bool} {v : V} {ds : List PyData} (j : Ji c F) (r : Rr c F H) (h : Lo c F fz H v (.d (.tuple ds))) : ∃ a xs, v = .ref a ∧ SqT c.K H a xs ∧ LoAll c F fz H xs (ds.map Im.d) := by
  cases h with
  | leaf h =>
    rcases h with ⟨q, b⟩ | ⟨q, b⟩
    · obtain ⟨a, xs, rfl, s, al⟩ := b.tup'
      exact ⟨a, xs, rfl, s.sq, .ofFlat (by simpa [flatD] using q) al⟩
    · obtain ⟨a, xs, rfl, s, al⟩ := b.tup'
      subst q
      exact ⟨a, xs, rfl, (r.tup j s).sq, .ofFz al⟩
def WD (c : Ct) (F : Hp) (fz : Bool) (J : It) (ds : List Im) : Prop :=
  Ji c F ∧ Walk J ds.length (fun H => Rr c F H) (fun i H x H' => Same H H' ∧ ∃ d, ds[i]? = some d ∧ Lo c F fz H' x d)
def EvI (c : Ct) (wi : TI) (Γ : List (Option Rs)) (fz : Bool) (ds : List Im) : Prop :=
  ∀ H0 O H σ, Env c H0 O H σ Γ → ∀ R : It → Hp → Prop, (∀ J H1, Rr c H H1 → WD c (if fz then mns H1 O else H1) fz J ds → R J H1) → wi σ H R
/-- a target takes an item -/
def EvG (c : Ct) (g : TG) (d : Im) (Γ Γ' : List (Option Rs)) (js : List Nat) : Prop :=
  ∀ H0 O H σ F fz x, Env c H0 O H σ Γ → Ji c F → Rr c F H → (fz = true → Rr c F (mns H O)) → Lo c F fz H x d → ∀ Q : L2.St → Hp → Prop,
    (∀ σ', Env c H0 O H σ' Γ' → (∀ vs, (∀ j ∈ js, j ∈ vs) → wipe σ' vs = wipe σ vs) → Q σ' H) → g x σ H Q
def EvGs (c : Ct) (g : TGs) (ds : List Im) (Γ Γ' : List (Option Rs)) (js : List Nat) : Prop :=
  ∀ H0 O H σ F fz xs, Env c H0 O H σ Γ → Ji c F → Rr c F H → (fz = true → Rr c F (mns H O)) → LoAll c F fz H xs ds → ∀ Q : L2.St → Hp → Prop,
    (∀ σ', Env c H0 O H σ' Γ' → (∀ vs, (∀ j ∈ js, j ∈ vs) → wipe σ' vs = wipe σ vs) → Q σ' H) → g xs σ H Q
theorem wipe_set {x : Option V} {j : Nat} {σ : L2.St} : ∀ {vs : List Nat}, j ∈ vs → wipe (σ.set j x) vs = wipe σ vs
  | [], h => by simp at h
  | v :: vs, h => by
    unfold wipe
    by_cases hj : j ∈ vs
    · rw [wipe_set hj]
    · have e : j = v := by simpa [hj] using h
      subst e
      have : ∀ (us : List Nat) (σ : L2.St), (wipe (σ.set j x) us).set j none = (wipe σ us).set j none := by
        intro us
        induction us with
        | nil => intro σ; simp [wipe]
        | cons u us ih =>
          intro σ
          show ((wipe (σ.set j x) us).set u none).set j none = ((wipe σ us).set u none).set j none
          by_cases q : u = j
          · subst q; simpa using ih σ
          · rw [List.set_comm _ _ q, ih σ, List.set_comm _ _ (fun z => q z.symm)]
      exact this vs σ
theorem wipe_wipe {σ : L2.St} : ∀ {vs us : List Nat}, (∀ v ∈ vs, v ∈ us) → wipe (wipe σ vs) us = wipe σ us
  | [], us, h => rfl
  | v :: vs, us, h => by
    show wipe ((wipe σ vs).set v none) us = wipe σ us
    rw [wipe_set (h v (by simp)), wipe_wipe fun w hw => h w (by simp [hw])]
def wipeG (Γ : List (Option Rs)) : List Nat → List (Option Rs)
  | [] => Γ
  | v :: vs => (wipeG Γ vs).set v none
theorem Env.wipe (e : Env c H0 O H σ Γ) : ∀ vs : List Nat, Env c H0 O H (L2.wipe σ vs) (wipeG Γ vs)
  | [] => e
  | v :: vs => (Env.wipe e vs).setN
theorem g_name {j : Nat} {d : PyData} : EvG c (gName j) (.d d) Γ (Γ.set j (some (.v d))) [j] := fun H0 O H σ F fz x e jF rF rM h Q q => by
  have b : Bo c (mns H O) x d := by
    cases h with
    | leaf h =>
      rcases h with ⟨f, b⟩ | ⟨f, b⟩
      · exact b.flatTo (fun a xs s => sqT_mns (fun b hb => e.dm b hb) s) f
      · exact b.mono jF (rM f)
  exact q _ (e.setV b) fun vs hv => wipe_set (hv j (by simp))
theorem g_nil : EvGs c gNil [] Γ Γ [] := fun H0 O H σ F fz xs e jF rF rM h Q q => by
  cases h
  exact ⟨rfl, q σ e fun _ _ => rfl⟩
theorem g_cons {g : TG} {gs : TGs} {d : Im} {ds : List Im} {Γ1 Γ2 : List (Option Rs)} {js ks : List Nat} (h : EvG c g d Γ Γ1 js) (hs : EvGs c gs ds Γ1 Γ2 ks) : EvGs c (gCons g gs) (d :: ds) Γ Γ2 (js ++ ks) := fun H0 O H σ F fz xs e jF rF rM l Q q => by
  cases l with
  | cons a b =>
    exact ⟨_, _, rfl, h H0 O H σ F fz _ e jF rF rM a _ fun σ1 e1 w1 => hs H0 O H σ1 F fz _ e1 jF rF rM b _ fun σ2 e2 w2 => q σ2 e2 fun vs hv =>
      (w2 vs fun j hj => hv j (by simp [hj])).trans (w1 vs fun j hj => hv j (by simp [hj]))⟩
theorem g_tup {n : Nat} {gs : TGs} {ds : List Im} {js : List Nat} (hn : ds.length = n) (hs : EvGs c gs ds Γ Γ' js) : EvG c (gTup c.K n gs) (.t ds) Γ Γ' js := fun H0 O H σ F fz x e jF rF rM h Q q => by
  cases h with
  | tup s al => exact ⟨_, _, rfl, s, al.len.trans hn, hs H0 O H σ F fz _ e jF rF rM al Q q⟩
theorem g_tupD {n : Nat} {gs : TGs} {ds : List PyData} {js : List Nat} (hn : ds.length = n) (hs : EvGs c gs (ds.map Im.d) Γ Γ' js) : EvG c (gTup c.K n gs) (.d (.tuple ds)) Γ Γ' js := fun H0 O H σ F fz x e jF rF rM h Q q => by
  obtain ⟨a, xs, rfl, s, al⟩ := h.parts jF rF
  exact ⟨_, _, rfl, s, al.len.trans (by simpa using hn), hs H0 O H σ F fz _ e jF rF rM al Q q⟩
end Lm

namespace Lm
open PySem PySem.Spec PyProof.Rows L2
variable {c : Ct} {H H' H0 H1 H2 H3 : Hp} {O : List Addr} {σ : L2.St} {Γ Γ' : List (Option Rs)}
variable {te ta tb tx tl : TE} {tt tu : TT} {tr : TA} {k ka kb : Kd} {d x y z : PyData} {i j : Int} {a b : Bool} {kv fz : Bool} {ds es : List PyData}

/-! ### what is walked: lists, tuples, ranges -/
theorem sizeOk {n : Nat} (h : n ≤ 1000000) : n ≤ sizeLine := Nat.le_trans h (by decide)
theorem map_get? {α : Type} {f : PyData → α} {i : Nat} {d : PyData} (h : ds[i]? = some d) : (ds.map f)[i]? = some (f d) := by simp [h]
/-- the frozen part -/
theorem Res.frozen {v : V} (e : Env c H0 O H σ Γ) (r : Rr c H H2) (h : Res c O H H2 v d k) (hk : k ≠ .b) : Bo c (mns H2 O) v d := by
  cases k with
  | v => exact h
  | o =>
    obtain ⟨fp, f, nd, new⟩ := h
    have e2 := e.on r
    have no : ∀ a ∈ fp, a ∉ O := fun a ha hO => by
      obtain ⟨xs, q⟩ := e.dm a hO
      rw [new a ha] at q
      cases q
    exact (f.up (fun a xs s => sqT_mns (fun b hb => e2.dm b hb) s) fun a ha o q => by rw [mns_out (no a ha)]; exact q).bo fun a ha => okA.fresh e.jH (new a ha)
  | b => exact absurd rfl hk
theorem i_core {J : It} {xs : List V} {F : Hp} (jF : Ji c F) (hw : Walk J xs.length (fun H => Rr c F H) (YAt xs)) (hb : BoAll c F xs ds) (hf : fz = true ∨ flatAll ds = true) : WD c F fz J (ds.map Im.d) := by
  refine ⟨jF, ?_⟩
  have hl : xs.length = (ds.map Im.d).length := by rw [hb.len]; simp
  rw [hl] at hw
  refine hw.mono (fun _ h => h) fun i H x H' hi g y => ?_
  obtain ⟨rfl, hx⟩ := y
  obtain ⟨d, hd, bd⟩ := hb.get hx
  refine ⟨Same.refl _, .d d, map_get? hd, .leaf ?_⟩
  rcases hf with hf | hf
  · exact .inr ⟨hf, bd⟩
  · refine .inl ⟨?_, bd.mono jF g⟩
    have : ∀ (l : List PyData), flatAll l = true → ∀ d ∈ l, flatD d = true := by
      intro l
      induction l with
      | nil => intro _ _ h; simp at h
      | cons a l ih =>
        intro q d hd
        have q' : (flatD a && flatAll l) = true := q
        rw [Bool.and_eq_true] at q'
        rcases List.mem_cons.mp hd with w | w
        · rw [w]; exact q'.1
        · exact ih q'.2 d w
    exact this ds hf d (List.mem_of_getElem? hd)
theorem i_listB (h : Ev c tl Γ k (.list ds)) (hf : flatAll ds = true) : EvI c (iList c.K tl) Γ false (ds.map Im.d) := fun H0 O H σ e R q =>
  h H0 O H σ e _ fun v H1 r s => by
    obtain ⟨p, xs, rfl, kp, sl, al⟩ := (Res.bo e s).lst'
    have j1 := (e.on r).jH
    exact ⟨p, rfl, ⟨xs, sl⟩, q _ H1 r (i_core j1 (walk_list.mono (fun H h => h.lst kp sl) fun _ _ _ _ _ _ y => y) al (.inr hf))⟩
theorem i_list (h : Ev c tl Γ k (.list ds)) (hk : k ≠ .b) : EvI c (iList c.K tl) Γ true (ds.map Im.d) := fun H0 O H σ e R q =>
  h H0 O H σ e _ fun v H1 r s => by
    obtain ⟨p, xs, rfl, kp, sl, al⟩ := (Res.frozen e r s hk).lst'
    exact ⟨p, rfl, ⟨xs, mns_same.seq sl⟩, q _ H1 r (i_core (e.on r).j (walk_list.mono (fun H h => h.lst kp sl) fun _ _ _ _ _ _ y => y) al (.inl rfl))⟩
theorem i_tup (h : Ev c tl Γ k (.tuple ds)) (hk : k ≠ .b) : EvI c (iTup c.K tl) Γ true (ds.map Im.d) := fun H0 O H σ e R q =>
  h H0 O H σ e _ fun v H1 r s => by
    obtain ⟨p, xs, rfl, sl, al⟩ := (Res.frozen e r s hk).tup'
    exact ⟨p, rfl, ⟨xs, (sqT_same mns_same sl).sq⟩, q _ H1 r (i_core (e.on r).j (walk_tup.mono (fun H h => (h.tup (e.on r).j sl).sq) fun _ _ _ _ _ _ y => y) al (.inl rfl))⟩
/-- the upI from lo on, n of them -/
def upI (lo : Int) (n : Nat) : List Int := (List.range n).map fun (i : Nat) => lo + (i : Int)
theorem i_range {F : Hp} (jF : Ji c F) {lo : Int} {n : Nat} : WD c F fz (Itr lo n) ((upI lo n).map fun i => Im.d (.int i)) := by
  refine ⟨jF, ?_⟩
  have hl : ((upI lo n).map fun i => Im.d (.int i)).length = n := by simp [upI]
  rw [hl]
  refine walk_range.mono (fun _ _ => trivial) fun i H x H' hi g y => ?_
  obtain ⟨rfl, rfl⟩ := y
  exact ⟨Same.refl _, .d (.int (lo + i)), by simp [upI, hi], .leaf (.inl ⟨rfl, .int _⟩)⟩
theorem i_rng1 {n : Int} (h : EvA c tr Γ kv [.int n]) (hn : n ≤ 1000000) (hn' : -1000000 ≤ n) : EvI c (iRng1 tr) Γ true ((upI 0 n.toNat).map fun i => Im.d (.int i)) := fun H0 O H σ e R q =>
  h H0 O H σ e _ fun vs H1 r s => by
    cases s with
    | cons b bs =>
      cases bs
      have := b.int'
      subst this
      exact ⟨n, rfl, by omega, by omega, q _ H1 r (i_range (e.on r).j)⟩
theorem i_rng2 {m n : Int} (h : EvA c tr Γ kv [.int m, .int n]) (hn : n ≤ 1000000) (hn' : -1000000 ≤ n) (hm : m ≤ 1000000) (hm' : -1000000 ≤ m) : EvI c (iRng2 tr) Γ true ((upI m (n - m).toNat).map fun i => Im.d (.int i)) := fun H0 O H σ e R q =>
  h H0 O H σ e _ fun vs H1 r s => by
    cases s with
    | cons b bs =>
      cases bs with
      | cons b' bs =>
        cases bs
        have := b.int'
        subst this
        have := b'.int'
        subst this
        exact ⟨m, n, rfl, ⟨by omega, by omega, by omega, by omega⟩, q _ H1 r (i_range (e.on r).j)⟩

/-! ### comprehensions -/
theorem flatAll_one {d : PyData} {ds : List PyData} (h : flatAll ds = true) (m : d ∈ ds) : flatD d = true := by
  induction ds with
  | nil => simp at m
  | cons a l ih =>
    have q' : (flatD a && flatAll l) = true := h
    rw [Bool.and_eq_true] at q'
    rcases List.mem_cons.mp m with w | w
    · rw [w]; exact q'.1
    · exact ih q'.2 w
theorem ifFz {F : Hp} {H1 : Hp} {O : List Addr} (e : Env c H0 O H σ Γ) (r1 : Rr c H H1) (r : Rr c H1 H2) : Rr c (if fz then mns H1 O else H1) H2 ∧ (fz = true → Rr c (if fz then mns H1 O else H1) (mns H2 O)) := by
  cases fz with
  | true => exact ⟨(Rr.same mns_same).tr r, fun _ => r.mns (e.on r1).j e.okO⟩
  | false => exact ⟨r, fun h => nomatch h⟩
theorem n_lc {wi : TI} {g : TG} {vs : List Nat} {items : List Im} (M : Nat → List PyData → Prop) (hi : EvI c wi Γ fz items) (hl : items.length ≤ 1000000) (h0 : M 0 [])
    (hb : ∀ (n : Nat) (a : Im) (acc : List PyData), items[n]? = some a → M n acc → ∃ Γ' js, EvG c g a (wipeG Γ vs) Γ' js ∧ (∀ j ∈ js, j ∈ vs) ∧
      ∃ (b : Bool) (P : PyData → Prop), EvT c tt Γ' b ∧ (b = true → EvN c te Γ' .o P ∧ ∀ d, P d → M (n + 1) (acc ++ [d])) ∧ (b = false → M (n + 1) acc)) :
    EvN c (tLc wi g tt te vs) Γ .o (fun d => ∃ acc, d = .list acc ∧ M items.length acc) := fun H0 O H σ e Q q =>
  hi H0 O H σ e _ fun J H1 r1 w D hD => by
    obtain ⟨jF, w⟩ := w
    refine lc_it w (fun n H' => Rr c H1 H' ∧ ∃ acc ds fp, H' D = some (.lst acc) ∧ FoAll c H' acc ds fp ∧ fp.Nodup ∧ (∀ a ∈ fp, H1 a = none) ∧ D ∉ fp ∧ ds.length ≤ n ∧ M n ds) ?_ ?_ ?_ ?_
    · exact ⟨Rr.same fun b o z => by rw [upd_ne (ne_of_none z hD)]; exact z, [], [], [], upd_same, .nil, List.nodup_nil, (fun _ h => nomatch h), (fun h => nomatch h), Nat.le_refl _, h0⟩
    · intro n H' _ p
      exact (ifFz (F := H) e r1 p.1).1
    · rintro n x H' H'' hn ⟨p1, acc, ds, fp, p2, p3, p4, p5, p6, p7, p8⟩ ⟨sm, im, him, lo⟩
      have e2 : Env c H0 O H'' σ Γ := e.on ((r1.tr p1).tr (Rr.same sm))
      have fzz := ifFz (fz := fz) (F := H) e r1 (p1.tr (Rr.same sm))
      obtain ⟨Γ', js, hg, hjs, b, P, ht, hy, hno⟩ := hb n im ds him p8
      refine hg H0 O H'' _ _ fz x (e2.wipe vs) jF fzz.1 fzz.2 lo _ fun σ2 e3 hw => ⟨(hw vs hjs).trans (wipe_wipe fun _ h => h), ht H0 O H'' σ2 e3 _ fun H3 r3 => ?_⟩
      have p3' : FoAll c H'' acc ds fp := p3.up (fun _ _ s => sqT_same sm s) fun a _ o z => sm a o z
      have okf : ∀ a ∈ fp, okA c a := fun a ha => okA.fresh (e.on r1).jH (p5 a ha)
      have okD : okA c D := okA.fresh (e.on r1).jH hD
      have f3 : FoAll c H3 acc ds fp := p3'.up (fun _ _ s => r3.tup e2.jH s) fun a ha o z => r3.1 a o (okf a ha) z
      have D3 : H3 D = some (.lst acc) := r3.1 D _ okD (sm _ _ p2)
      have r13 : Rr c H1 H3 := (p1.tr (Rr.same sm)).tr r3
      cases b with
      | true =>
        refine iteT ?_
        obtain ⟨hyN, hyM⟩ := hy rfl
        refine hyN H0 O H3 σ2 (e3.on r3) _ fun v d H4 pd r4 s4 => ?_
        obtain ⟨fq, f4, nq, newq⟩ := s4
        have e3' := e3.on r3
        have D4 : H4 D = some (.lst acc) := r4.1 D _ okD D3
        have f3' : FoAll c H4 acc ds fp := f3.up (fun _ _ s => r4.tup e3'.jH s) fun a ha o z => r4.1 a o (okf a ha) z
        have Dq : D ∉ fq := fun z => by rw [newq D z] at D3; cases D3
        have all : FoAll c H4 (acc ++ [v]) (ds ++ [d]) (fp ++ (fq ++ [])) := f3'.app (.cons f4 .nil)
        rw [List.append_nil] at all
        have lacc : acc.length = ds.length := (f3'.bo okf).len
        have hle : ds.length ≤ 1000000 := by omega
        have nodq : ∀ a ∈ fp, a ∉ fq := fun a ha hq => by
          obtain ⟨xs, z⟩ := f3.isL a ha
          rw [newq a hq] at z; cases z
        refine ⟨acc, D4, by rw [lacc, sizeLine_eq]; omega, ?_, acc ++ [v], ds ++ [d], fp ++ fq, upd_same, ?_, ?_, ?_, ?_, by simp; omega, hyM d pd⟩
        · refine ⟨fun a o ok z => ?_, fun jj => ?_⟩
          · rw [upd_ne (ne_of_none z hD)]; exact (r13.tr r4).1 a o ok z
          · intro st l eq
            obtain ⟨ns, x, k, g1, g2, g3, g4⟩ := (r13.tr r4).2 jj st l eq
            have d1 : st ≠ D := fun z => by
              obtain ⟨ns', x', k', g1', _⟩ := jj st l eq
              rw [z, hD] at g1'; cases g1'
            have d2 : l ≠ D := fun z => by
              obtain ⟨ns', x', k', _, g2', _⟩ := jj st l eq
              rw [z, hD] at g2'; cases g2'
            exact ⟨ns, x, k, by rw [upd_ne d1]; exact g1, by rw [upd_ne d2]; exact g2, g3, g4⟩
        · refine all.up (fun _ _ s => sqT_upd D4 s) fun a ha o z => ?_
          have : a ≠ D := fun w => by
            subst w
            rcases List.mem_append.mp ha with u | u
            · exact p6 u
            · exact Dq u
          rw [upd_ne this]; exact z
        · rw [List.nodup_append]
          exact ⟨p4, nq, fun a ha b hb z => by subst z; exact nodq a ha hb⟩
        · intro a ha
          rcases List.mem_append.mp ha with u | u
          · exact p5 a u
          · exact r13.back (e.on r1).jH (newq a u)
        · intro z
          rcases List.mem_append.mp z with u | u
          · exact p6 u
          · exact Dq u
      | false =>
        exact iteF ⟨r13, acc, ds, fp, D3, f3, p4, p5, p6, by omega, hno rfl⟩
    · rintro H' ⟨p1, acc, ds, fp, p2, p3, p4, p5, p6, p7, p8⟩
      refine q (.ref D) (.list ds) H' ⟨ds, rfl, p8⟩ (r1.tr p1) ⟨D :: fp, .lst p2 p3, ?_, fun a ha => ?_⟩
      · exact List.nodup_cons.mpr ⟨p6, p4⟩
      · rcases List.mem_cons.mp ha with w | w
        · rw [w]; exact r1.back e.jH hD
        · exact r1.back e.jH (p5 a w)
theorem d_lc {α : Type} {wi : TI} {g : TG} {vs : List Nat} {l : List α} {en : α → Im} (p : α → Bool) (m : α → PyData) (hi : EvI c wi Γ fz (l.map en)) (hl : l.length ≤ 1000000)
    (hb : ∀ a ∈ l, ∃ Γ' js, EvG c g (en a) (wipeG Γ vs) Γ' js ∧ (∀ j ∈ js, j ∈ vs) ∧ EvT c tt Γ' (p a) ∧ (p a = true → Ev c te Γ' .o (m a))) :
    Ev c (tLc wi g tt te vs) Γ .o (.list ((l.filter p).map m)) := by
  refine ((n_lc (fun n acc => acc = ((l.take n).filter p).map m) hi (by simpa using hl) rfl ?_).imp ?_).det
  · intro n a acc hn hacc
    rw [List.getElem?_map] at hn
    cases ha : l[n]? with
    | none => rw [ha] at hn; cases hn
    | some a0 =>
      rw [ha] at hn
      have : en a0 = a := Option.some.inj hn
      subst this
      have tk : l.take (n + 1) = l.take n ++ [a0] := by
        rw [List.take_add_one, ha]; rfl
      obtain ⟨Γ', js, h1, h2, h3, h4⟩ := hb a0 (List.mem_of_getElem? ha)
      refine ⟨Γ', js, h1, h2, p a0, fun d => d = m a0, h3, fun hp => ⟨(h4 hp).n, fun d hd => ?_⟩, fun hp => ?_⟩
      · rw [hacc, tk, hd]; simp [hp]
      · rw [hacc, tk]; simp [hp]
  · rintro d ⟨acc, rfl, h⟩
    have : (l.map en).length = l.length := by simp
    rw [this, List.take_length] at h
    rw [h]
/-- without a test -/
theorem d_lcA {α : Type} {wi : TI} {g : TG} {vs : List Nat} {l : List α} {en : α → Im} (m : α → PyData) (hi : EvI c wi Γ fz (l.map en)) (hl : l.length ≤ 1000000)
    (hb : ∀ a ∈ l, ∃ Γ' js, EvG c g (en a) (wipeG Γ vs) Γ' js ∧ (∀ j ∈ js, j ∈ vs) ∧ Ev c te Γ' .o (m a)) :
    Ev c (tLc wi g tYes te vs) Γ .o (.list (l.map m)) := by
  have := d_lc (te := te) (tt := tYes) (g := g) (vs := vs) (fun _ => true) m hi hl fun a ha => by
    obtain ⟨Γ', js, h1, h2, h3⟩ := hb a ha
    exact ⟨Γ', js, h1, h2, t_yes, fun _ => h3⟩
  have e : l.filter (fun _ => true) = l := List.filter_eq_self.mpr fun _ _ => rfl
  rwa [e] at this
end Lm

namespace Lm
open PySem PySem.Spec PyProof.Rows L2
variable {c : Ct} {H H' H0 H1 H2 H3 : Hp} {O : List Addr} {σ : L2.St} {Γ Γ' Γ1 : List (Option Rs)}
variable {te ta tb tx tl : TE} {tt tu : TT} {tr : TA} {k ka kb : Kd} {d x y z : PyData} {i j : Int} {a b : Bool} {kv fz : Bool} {ds es : List PyData}

/-! ### how a statement ends -/
inductive Out where
  | nx (Γ : List (Option Rs))
  | rt (k : Kd) (d : PyData)
  | bk (Γ : List (Option Rs))
  | ct (Γ : List (Option Rs))
def Rt (c : Ct) (H0 H : Hp) (v : V) (d : PyData) : Kd → Prop
  | .v => flatD d = true ∧ Bo c H v d
  | .o => ∃ fp, Fo c H v d fp ∧ fp.Nodup ∧ ∀ a ∈ fp, H0 a = none
  | .b => False
def Sat (c : Ct) (H0 : Hp) (D : Ends) : Out → Prop
  | .nx Γ => ∀ O H σ, Env c H0 O H σ Γ → D.nx σ H
  | .rt k d => ∀ v H, Rr c H0 H → Rt c H0 H v d k → D.rt v H
  | .bk Γ => ∀ O H σ, Env c H0 O H σ Γ → D.bk σ H
  | .ct Γ => ∀ O H σ, Env c H0 O H σ Γ → D.ct σ H
def Sd (c : Ct) (t : TS) (Γ : List (Option Rs)) (P : Out → Prop) : Prop :=
  ∀ H0 O H σ D, Env c H0 O H σ Γ → (∀ o, P o → Sat c H0 D o) → t D σ H
section
variable {t u w : TS} {P P1 : Out → Prop} {n : Nat}
theorem Env.back0 (e : Env c H0 O H σ Γ) {a : Addr} (h : mns H O a = none) : H0 a = none := by
  cases q : H0 a with
  | none => rfl
  | some o =>
    have k : okA c a := fun st l z w => by
      obtain ⟨ns, x, k, g1, _⟩ := e.j st l z
      rw [← w, h] at g1
      cases g1
    have := e.r0.1 a o k q
    rw [h] at this
    cases this
theorem s_next (h : P (.nx Γ)) : Sd c tNext Γ P := fun H0 O H σ D e s => s _ h O H σ e
theorem s_brk (h : P (.bk Γ)) : Sd c tBreak Γ P := fun H0 O H σ D e s => s _ h O H σ e
theorem s_cont (h : P (.ct Γ)) : Sd c tCont Γ P := fun H0 O H σ D e s => s _ h O H σ e
theorem s_seq (h : Sd c t Γ P1) (hn : ∀ Γ1, P1 (.nx Γ1) → Sd c u Γ1 P) (hr : ∀ k d, P1 (.rt k d) → P (.rt k d)) (hb : ∀ Γ1, P1 (.bk Γ1) → P (.bk Γ1)) (hc : ∀ Γ1, P1 (.ct Γ1) → P (.ct Γ1)) : Sd c (tSeq t u) Γ P := fun H0 O H σ D e s =>
  h H0 O H σ _ e fun o po => match o with
    | .nx Γ1 => fun O1 H1 σ1 e1 => hn Γ1 po H0 O1 H1 σ1 D e1 s
    | .rt k d => fun v H1 r q => s _ (hr k d po) v H1 r q
    | .bk Γ1 => fun O1 H1 σ1 e1 => s _ (hb Γ1 po) O1 H1 σ1 e1
    | .ct Γ1 => fun O1 H1 σ1 e1 => s _ (hc Γ1 po) O1 H1 σ1 e1
theorem s_seq1 (h : Sd c t Γ (fun o => o = .nx Γ1)) (hn : Sd c u Γ1 P) : Sd c (tSeq t u) Γ P :=
  s_seq h (fun _ e => by cases e; exact hn) (fun _ _ e => nomatch e) (fun _ e => nomatch e) (fun _ e => nomatch e)
theorem Sd.imp (h : Sd c t Γ P1) (i : ∀ o, P1 o → P o) : Sd c t Γ P := fun H0 O H σ D e s => h H0 O H σ D e fun o po => s o (i o po)
/-- another description of the slots -/
theorem Sd.pre (h : Sd c t Γ1 P) (i : ∀ H0 O H σ, Env c H0 O H σ Γ → ∃ O', Env c H0 O' H σ Γ1) : Sd c t Γ P := fun H0 O H σ D e s => by
  obtain ⟨O', e'⟩ := i H0 O H σ e
  exact h H0 O' H σ D e' s
theorem s_freeze (h : Γ[n]? = some (some (.o d))) (hs : Sd c t (Γ.set n (some (.v d))) P) : Sd c t Γ P :=
  hs.pre fun H0 O H σ e => let ⟨O', e', _⟩ := e.freeze h; ⟨O', e'⟩
/-- what an expression gave is stored: to be returned -/
theorem Rt.of {v : V} (e : Env c H0 O H σ Γ) (r : Rr c H H2) (h : Res c O H H2 v d k) (hk : k = .o ∨ (k = .v ∧ flatD d = true)) : Rt c H0 H2 v d k := by
  rcases hk with rfl | ⟨rfl, f⟩
  · obtain ⟨fp, q, nd, new⟩ := h
    refine ⟨fp, q, nd, fun a ha => e.back0 ?_⟩
    have : a ∉ O := fun z => by
      obtain ⟨xs, w⟩ := e.dm a z
      rw [new a ha] at w; cases w
    rw [mns_out this]; exact new a ha
  · exact ⟨f, Bo.same mns_same h⟩
theorem s_ret (h : Ev c te Γ k d) (hk : k = .o ∨ (k = .v ∧ flatD d = true)) (p : P (.rt k d)) : Sd c (tRet te) Γ P := fun H0 O H σ D e s =>
  h H0 O H σ e _ fun v H2 r q => s _ p v H2 (e.rH.tr r) (Rt.of e r q hk)
theorem s_retN (Pd : PyData → Prop) (h : EvN c te Γ k Pd) (hk : k = .o ∨ (k = .v ∧ ∀ d, Pd d → flatD d = true)) (p : ∀ d, Pd d → P (.rt k d)) : Sd c (tRet te) Γ P := fun H0 O H σ D e s =>
  h H0 O H σ e _ fun v d H2 pd r q => s _ (p d pd) v H2 (e.rH.tr r) (Rt.of e r q (hk.imp id fun w => ⟨w.1, w.2 d pd⟩))
theorem s_retNone (p : P (.rt .v .none)) : Sd c tRetN Γ P := fun H0 O H σ D e s => s _ p .non H e.rH ⟨rfl, .non⟩
/-- a list of one's own is returned -/
theorem s_retO (h : Γ[n]? = some (some (.o d))) (p : P (.rt .o d)) : Sd c (tRet (tVar n)) Γ P := fun H0 O H σ D e s => by
  obtain ⟨v, fp, hv, f, nd, sub⟩ := e.slotO h
  exact ⟨v, hv, s _ p v H e.rH ⟨fp, f, nd, fun a ha => e.fr a (sub a ha)⟩⟩
theorem s_asg (h : Ev c te Γ .v d) (p : P (.nx (Γ.set n (some (.v d))))) : Sd c (tAsg te (gName n)) Γ P := fun H0 O H σ D e s =>
  h H0 O H σ e _ fun v H2 r q => s _ p O H2 _ ((e.on r).setV q)
theorem s_asgO (h : Ev c te Γ .o d) (p : P (.nx (Γ.set n (some (.o d))))) : Sd c (tAsg te (gName n)) Γ P := fun H0 O H σ D e s =>
  h H0 O H σ e _ fun v H2 r ⟨fp, f, nd, new⟩ => s _ p _ H2 _ (e.setO r f nd new)
theorem q_asg (h : Ev c te Γ .v d) (p : Sd c u (Γ.set n (some (.v d))) P) : Sd c (tSeq (tAsg te (gName n)) u) Γ P := s_seq1 (s_asg h rfl) p
theorem q_asgO (h : Ev c te Γ .o d) (p : Sd c u (Γ.set n (some (.o d))) P) : Sd c (tSeq (tAsg te (gName n)) u) Γ P := s_seq1 (s_asgO h rfl) p
theorem q_asgN (Pd : PyData → Prop) (h : EvN c te Γ .v Pd) (p : ∀ d, Pd d → Sd c u (Γ.set n (some (.v d))) P) : Sd c (tSeq (tAsg te (gName n)) u) Γ P := fun H0 O H σ D e s =>
  h H0 O H σ e _ fun v d H2 pd r q => p d pd H0 O H2 _ D ((e.on r).setV q) s
theorem q_asgNO (Pd : PyData → Prop) (h : EvN c te Γ .o Pd) (p : ∀ d, Pd d → Sd c u (Γ.set n (some (.o d))) P) : Sd c (tSeq (tAsg te (gName n)) u) Γ P := fun H0 O H σ D e s =>
  h H0 O H σ e _ fun v d H2 pd r ⟨fp, f, nd, new⟩ => p d pd H0 _ H2 _ D (e.setO r f nd new) s
theorem q_drop (h : Ev c te Γ k d) (p : Sd c u Γ P) : Sd c (tSeq (tDrop te) u) Γ P := fun H0 O H σ D e s =>
  h H0 O H σ e _ fun v H2 r q => p H0 O H2 σ D (e.on r) s
theorem s_drop (h : Ev c te Γ k d) (p : P (.nx Γ)) : Sd c (tDrop te) Γ P := fun H0 O H σ D e s =>
  h H0 O H σ e _ fun v H2 r q => s _ p O H2 σ (e.on r)
theorem s_if (h : EvT c tt Γ a) (h1 : a = true → Sd c t Γ P) (h2 : a = false → Sd c u Γ P) : Sd c (tIfS tt t u) Γ P := fun H0 O H σ D e s =>
  h H0 O H σ e _ fun H2 r => by
    cases a with
    | true => exact iteT (h1 rfl H0 O H2 σ D (e.on r) s)
    | false => exact iteF (h2 rfl H0 O H2 σ D (e.on r) s)
theorem s_ifN (h : EvTN c tt Γ) (h1 : Sd c t Γ P) (h2 : Sd c u Γ P) : Sd c (tIfS tt t u) Γ P := fun H0 O H σ D e s =>
  h H0 O H σ e _ fun b H2 r => by
    cases b with
    | true => exact iteT (h1 H0 O H2 σ D (e.on r) s)
    | false => exact iteF (h2 H0 O H2 σ D (e.on r) s)
/-- if, then the rest -/
theorem q_if (h : EvT c tt Γ a) (h1 : a = true → Sd c (tSeq t w) Γ P) (h2 : a = false → Sd c (tSeq u w) Γ P) : Sd c (tSeq (tIfS tt t u) w) Γ P := fun H0 O H σ D e s =>
  h H0 O H σ e _ fun H2 r => by
    cases a with
    | true => exact iteT (h1 rfl H0 O H2 σ D (e.on r) s)
    | false => exact iteF (h2 rfl H0 O H2 σ D (e.on r) s)
theorem q_ifN (h : EvTN c tt Γ) (h1 : Sd c (tSeq t w) Γ P) (h2 : Sd c (tSeq u w) Γ P) : Sd c (tSeq (tIfS tt t u) w) Γ P := fun H0 O H σ D e s =>
  h H0 O H σ e _ fun b H2 r => by
    cases b with
    | true => exact iteT (h1 H0 O H2 σ D (e.on r) s)
    | false => exact iteF (h2 H0 O H2 σ D (e.on r) s)
theorem q_next (h : Sd c u Γ P) : Sd c (tSeq tNext u) Γ P := fun H0 O H σ D e s => h H0 O H σ D e s
theorem q_ret (h : Ev c te Γ k d) (hk : k = .o ∨ (k = .v ∧ flatD d = true)) (p : P (.rt k d)) : Sd c (tSeq (tRet te) u) Γ P := fun H0 O H σ D e s =>
  h H0 O H σ e _ fun v H2 r q => s _ p v H2 (e.rH.tr r) (Rt.of e r q hk)
/-- if that surely is not so (or is) -/
theorem q_no (h : EvT c tt Γ false) (h2 : Sd c w Γ P) : Sd c (tSeq (tIfS tt t tNext) w) Γ P := q_if h (fun e => nomatch e) (fun _ => q_next h2)
theorem s_no (h : EvT c tt Γ false) (h2 : Sd c u Γ P) : Sd c (tIfS tt t u) Γ P := s_if h (fun e => nomatch e) (fun _ => h2)
theorem s_yes (h : EvT c tt Γ true) (h2 : Sd c t Γ P) : Sd c (tIfS tt t u) Γ P := s_if h (fun _ => h2) (fun e => nomatch e)
/-- x += e -/
theorem s_aug {f : Int → Int → Int} (hx : Γ[n]? = some (some (.v (.int i)))) (h : Ev c te Γ k (.int j)) (p : P (.nx (Γ.set n (some (.v (.int (f i j))))))) : Sd c (tAug n te (ipI f)) Γ P := fun H0 O H σ D e s => by
  obtain ⟨v, hv, b⟩ := e.slotV hx
  refine ⟨v, hv, h H0 O H σ e _ fun w H2 r q => ⟨i, j, b.int', (Res.bo e q).int', s _ p O H2 _ ((e.on r).setV (.int _))⟩⟩
theorem q_aug {f : Int → Int → Int} (hx : Γ[n]? = some (some (.v (.int i)))) (h : Ev c te Γ k (.int j)) (p : Sd c u (Γ.set n (some (.v (.int (f i j))))) P) : Sd c (tSeq (tAug n te (ipI f)) u) Γ P := s_seq1 (s_aug hx h rfl) p
/-- xs.append(e) -/
theorem s_app (hx : Γ[n]? = some (some (.o (.list ds)))) (h : Ev c te Γ k d) (hf : flatD d = true) (hl : ds.length < 1000000) (p : P (.nx (Γ.set n (some (.o (.list (ds ++ [d]))))))) : Sd c (tDrop (tBM c.K "list" rAppend (tVar n) (tCons te tNil))) Γ P := fun H0 O H σ D e s => by
  obtain ⟨q, xs, f, hq, hp, fa, qf, qO, _⟩ := e.write (es := ds ++ [d]) hx
  refine ⟨.ref q, hq, .inl ⟨rfl, xs, .inl (.inl hp)⟩, h H0 O H σ e _ fun v H2 r rs => ?_⟩
  have e2 := e.on r
  obtain ⟨q', xs', f', hq', hp', fa', qf', qO', wr⟩ := e2.write (es := ds ++ [d]) hx
  have : q' = q := by rw [hq] at hq'; cases hq'; rfl
  subst this
  have bo : Bo c H2 v d := Res.bo e rs
  have lx : xs'.length = ds.length := (fa'.bo fun a ha => e.okO a (qO' a ha)).len
  refine ⟨q', xs', v, rfl, rfl, hp', by rw [lx, sizeLine_eq]; omega, s _ p O _ σ (wr (xs' ++ [v]) ?_)⟩
  have := fa'.app (.cons (.leaf hf bo) .nil : FoAll c H2 [v] [d] ([] ++ []))
  rw [List.append_nil, List.append_nil] at this
  exact this.up (fun _ _ s => sqT_upd hp' s) fun a ha o z => by
    have : a ≠ q' := fun w => qf' (w ▸ ha)
    rw [upd_ne this]; exact z
theorem q_app (hx : Γ[n]? = some (some (.o (.list ds)))) (h : Ev c te Γ k d) (hf : flatD d = true) (hl : ds.length < 1000000) (p : Sd c u (Γ.set n (some (.o (.list (ds ++ [d]))))) P) : Sd c (tSeq (tDrop (tBM c.K "list" rAppend (tVar n) (tCons te tNil))) u) Γ P :=
  s_seq1 (s_app hx h hf hl rfl) p
theorem FoAll.set0 : ∀ {v : List V} {d : List PyData} {m : Nat} {x : V} {e : PyData}, FoAll c H v d [] → flatD e = true → Bo c H x e → FoAll c H (v.set m x) (d.set m e) [] := by
  intro v
  induction v with
  | nil =>
    intro d m x e h q b
    cases h
    exact .nil
  | cons v0 v ih =>
    intro d m x e h q b
    generalize hz : ([] : List Addr) = z at h
    cases h with
    | cons a r =>
      obtain ⟨h1, h2⟩ := List.append_eq_nil_iff.mp hz.symm
      subst h1
      subst h2
      cases m with
      | zero => exact .cons (f := []) (fs := []) (.leaf q b) r
      | succ m => exact .cons (f := []) (fs := []) a (ih r q b)
/-- xs[i] = e, xs a list of flat things -/
theorem s_setI (hx : Γ[n]? = some (some (.o (.list ds)))) (hds : flatAll ds = true) (h : Ev c te Γ k d) (hf : flatD d = true) (hi : Ev c ta Γ ka (.int (i : Int))) (hj : ixN ds.length i = some m) (p : P (.nx (Γ.set n (some (.o (.list (ds.set m d))))))) : Sd c (tAsg te (gSub (tVar n) ta rSetL)) Γ P := fun H0 O H σ D e s =>
  h H0 O H σ e _ fun v H2 r rs => by
    have e2 := e.on r
    obtain ⟨q, xs, f, hq, hp, fa, qf, qO, _⟩ := e2.write (es := ds.set m d) hx
    refine ⟨.ref q, hq, hi H0 O H2 σ e2 _ fun w H3 r3 ws => ?_⟩
    have e3 := e2.on r3
    obtain ⟨q', xs', f', hq', hp', fa', qf', qO', wr⟩ := e3.write (es := ds.set m d) hx
    have : q' = q := by rw [hq] at hq'; cases hq'; rfl
    subst this
    have bo : Bo c H3 v d := Res.bo e (Res.on e r r3 rs)
    have lx : xs'.length = ds.length := (fa'.bo fun a ha => e.okO a (qO' a ha)).len
    refine ⟨q', xs', i, m, rfl, (Res.bo e2 ws).int', hp', by rw [lx]; exact hj, s _ p O _ σ (wr _ ?_)⟩
    obtain ⟨rfl, ba⟩ := fa'.flat0 hds
    exact (FoAll.set0 fa' hf bo).up (fun _ _ s => sqT_upd hp' s) fun a ha => nomatch ha
theorem q_setI (hx : Γ[n]? = some (some (.o (.list ds)))) (hds : flatAll ds = true) (h : Ev c te Γ k d) (hf : flatD d = true) (hi : Ev c ta Γ ka (.int (i : Int))) (hj : ixN ds.length i = some m) (p : Sd c u (Γ.set n (some (.o (.list (ds.set m d))))) P) : Sd c (tSeq (tAsg te (gSub (tVar n) ta rSetL)) u) Γ P :=
  s_seq1 (s_setI hx hds h hf hi hj rfl) p
/-! ### for -/
theorem s_for {wi : TI} {g : TG} {tb : TS} {items : List Im} (hi : EvI c wi Γ true items) (I : Nat → List (Option Rs) → Prop) (h0 : I 0 Γ)
    (hs : ∀ n a Γ1, items[n]? = some a → I n Γ1 → ∃ Γ2 js, EvG c g a Γ1 Γ2 js ∧
      Sd c tb Γ2 (fun o => (∃ Γ3, (o = .nx Γ3 ∨ o = .ct Γ3) ∧ I (n + 1) Γ3) ∨ (∃ Γ3, o = .bk Γ3 ∧ P (.nx Γ3)) ∨ ∃ k d, o = .rt k d ∧ P o))
    (hd : ∀ Γ1, I items.length Γ1 → P (.nx Γ1)) : Sd c (tFor wi g tb) Γ P := fun H0 O H σ D e s =>
  hi H0 O H σ e _ fun J H1 r1 w => by
    obtain ⟨jF, w⟩ := w
    have e1 := e.on r1
    refine for_it w (fun n σ' H' => ∃ O' Γ', I n Γ' ∧ Env c (mns H1 O) O' H' σ' Γ') ⟨O, Γ, h0, e1.base⟩ ?_ ?_ ?_
    · rintro n σ' H' _ ⟨O', Γ', _, e'⟩
      exact e'.rH
    · rintro n x σ' H' H'' hn ⟨O', Γ', hI, e'⟩ ⟨sm, im, him, lo⟩
      have e2 := e'.on (Rr.same sm)
      obtain ⟨Γ2, js, hg, hb⟩ := hs n im Γ' him hI
      refine hg _ _ _ _ _ true x e2 jF e2.rH (fun _ => e2.r0) lo _ fun σ2 e3 _ => hb _ _ _ _ _ e3 fun o po => ?_
      rcases po with ⟨Γ3, ho, h3⟩ | ⟨Γ3, ho, h3⟩ | ⟨k, d, ho, h3⟩
      · rcases ho with rfl | rfl
        · exact fun O4 H4 σ4 e4 => ⟨O4, Γ3, h3, e4⟩
        · exact fun O4 H4 σ4 e4 => ⟨O4, Γ3, h3, e4⟩
      · subst ho
        exact fun O4 H4 σ4 e4 => s _ h3 O4 H4 σ4 (e1.fromB e4)
      · subst ho
        intro v H4 r4 rt
        refine s _ h3 v H4 ((e.r0.tr (r1.mns e.j e.okO)).tr r4) ?_
        cases k with
        | v => exact rt
        | o =>
          obtain ⟨fp, q, nd, new⟩ := rt
          exact ⟨fp, q, nd, fun a ha => e1.back0 (new a ha)⟩
        | b => exact rt
    · rintro σ' H' ⟨O', Γ', hI, e'⟩
      exact s _ (hd Γ' hI) O' H' σ' (e1.fromB e')
theorem q_for {wi : TI} {g : TG} {tb : TS} {items : List Im} (hi : EvI c wi Γ true items) (I : Nat → List (Option Rs) → Prop) (h0 : I 0 Γ)
    (hs : ∀ n a Γ1, items[n]? = some a → I n Γ1 → ∃ Γ2 js, EvG c g a Γ1 Γ2 js ∧
      Sd c tb Γ2 (fun o => (∃ Γ3, (o = .nx Γ3 ∨ o = .ct Γ3) ∧ I (n + 1) Γ3) ∨ (∃ Γ3, o = .bk Γ3 ∧ Sd c u Γ3 P) ∨ ∃ k d, o = .rt k d ∧ P o))
    (hd : ∀ Γ1, I items.length Γ1 → Sd c u Γ1 P) : Sd c (tSeq (tFor wi g tb) u) Γ P :=
  s_seq (P1 := fun o => match o with | .nx Γ3 => Sd c u Γ3 P | .rt k d => P (.rt k d) | _ => False)
    (s_for hi I h0 (fun n a Γ1 h1 h2 => by
      obtain ⟨Γ2, js, hg, hb⟩ := hs n a Γ1 h1 h2
      refine ⟨Γ2, js, hg, hb.imp fun o po => ?_⟩
      rcases po with w | ⟨Γ3, ho, h3⟩ | ⟨k, d, ho, h3⟩
      · exact .inl w
      · exact .inr (.inl ⟨Γ3, ho, h3⟩)
      · subst ho; exact .inr (.inr ⟨k, d, rfl, h3⟩)) hd) (fun _ h => h) (fun _ _ h => h) (fun _ h => h.elim) (fun _ h => h.elim)
end

/-! ### new tuples and lists; built-ins -/
theorem newTk {xs : List V} {Q : VK} (h : ∀ p H2, H p = none → Same H H2 → TpN c.K H2 p xs → Q (.ref p) H2) : NewT H xs Q := fun p o ho hp =>
  h p _ hp (fun b u z => by rw [upd_ne (ne_of_none z hp)]; exact z) (.inl ⟨o, ho, upd_same⟩)
theorem BoAll.vm {O : List Addr} {vs : List V} (h : BoAll c (if true = true then mns H O else H) vs ds) : BoAll c (mns H O) vs ds := h
theorem new_notO (e : Env c H0 O H σ Γ) {p : Addr} (h : H p = none) : p ∉ O := fun z => by
  obtain ⟨xs, w⟩ := e.dm p z
  rw [h] at w; cases w
theorem tpN_mns (e : Env c H0 O H σ Γ) (r : Rr c H H2) {p : Addr} {xs : List V} (h : TpN c.K H2 p xs) : TpN c.K (mns H2 O) p xs := sqT_mns (fun b hb => (e.on r).dm b hb) h
theorem d_tup (h : EvA c tr Γ true ds) (hl : ds.length ≤ 1000000) : Ev c (tTupN tr) Γ .v (.tuple ds) := fun H0 O H σ e Q q =>
  h H0 O H σ e _ fun vs H1 r s => by
    have s' := BoAll.vm s
    refine ⟨by rw [s'.len]; exact sizeOk hl, newTk (c := c) fun p H2 hp sm tp => q _ H2 (r.tr (Rr.same sm)) ?_⟩
    have r2 : Rr c H H2 := r.tr (Rr.same sm)
    exact .tup (tpN_mns e r2 tp) (s'.mono (e.on r).j ((Rr.same sm : Rr c H1 H2).mns (e.on r).j e.okO))
theorem d_tupN (P : List PyData → Prop) (h : ∀ H0 O H σ, Env c H0 O H σ Γ → ∀ Q : List V → Hp → Prop, (∀ vs ds H2, P ds → Rr c H H2 → BoAll c (mns H2 O) vs ds → Q vs H2) → tr σ H Q) (hl : ∀ ds, P ds → ds.length ≤ 1000000) :
    EvN c (tTupN tr) Γ .v (fun d => ∃ ds, d = .tuple ds ∧ P ds) := fun H0 O H σ e Q q =>
  h H0 O H σ e _ fun vs ds H1 pd r s' => by
    refine ⟨by rw [s'.len]; exact sizeOk (hl ds pd), newTk (c := c) fun p H2 hp sm tp => q _ _ H2 ⟨ds, rfl, pd⟩ (r.tr (Rr.same sm)) ?_⟩
    have r2 : Rr c H H2 := r.tr (Rr.same sm)
    exact .tup (tpN_mns e r2 tp) (s'.mono (e.on r).j ((Rr.same sm : Rr c H1 H2).mns (e.on r).j e.okO))
theorem d_lst (h : EvA c tr Γ kv ds) (hf : flatAll ds = true) (hl : ds.length ≤ 1000000) : Ev c (tLst tr) Γ .o (.list ds) := fun H0 O H σ e Q q =>
  h H0 O H σ e _ fun vs H1 r s => by
    have s' : BoAll c H1 vs ds := by
      cases kv with
      | true => exact BoAll.same mns_same (BoAll.vm s)
      | false => exact s
    refine ⟨by rw [s'.len]; exact sizeOk hl, fun p hp => q _ _ (r.tr (Rr.same fun b u z => by rw [upd_ne (ne_of_none z hp)]; exact z)) ?_⟩
    have sm : Same H1 (upd H1 p (.lst vs)) := fun b u z => by rw [upd_ne (ne_of_none z hp)]; exact z
    exact ⟨[p], .lst upd_same (FoAll.leaves hf (s'.same sm)), by simp, fun a ha => by
      have : a = p := by simpa using ha
      rw [this]; exact r.back e.jH hp⟩
/-- a call by values -/
theorem d_cb {r : List V → Hp → VK → Prop} (h : EvA c tr Γ false ds) (hr : ∀ H O vs (Q : VK), BoAll c H vs ds → (∀ v H2, Rr c H H2 → Bo c (mns H2 O) v z → Q v H2) → r vs H Q) : Ev c (tCB r tr) Γ .v z := fun H0 O H σ e Q q =>
  h H0 O H σ e _ fun vs H1 r1 s => hr H1 O vs Q s fun v H2 r2 b => q v H2 (r1.tr r2) b
theorem BoAll.one {v : List V} (h : BoAll c H v [d]) : ∃ x, v = [x] ∧ Bo c H x d := by
  cases h with
  | cons a b => cases b; exact ⟨_, rfl, a⟩
theorem BoAll.two {v : List V} (h : BoAll c H v [d, x]) : ∃ y z, v = [y, z] ∧ Bo c H y d ∧ Bo c H z x := by
  cases h with
  | cons a b =>
    cases b with
    | cons a' b => cases b; exact ⟨_, _, rfl, a, a'⟩
def rLen (K : PySem.W.Frag) : List V → Hp → VK → Prop := fun xs H Q => ∃ p ys, xs = [.ref p] ∧ (SqL K H p ys ∨ SqT K H p ys) ∧ Q (.int ys.length) H
theorem d_lenT (h : Ev c te Γ k (.tuple ds)) : Ev c (tCB (rLen c.K) (tCons te tNil)) Γ .v (.int ds.length) :=
  d_cb (a_cons h a_nil) fun H O vs Q s q => by
    obtain ⟨x, rfl, b⟩ := s.one
    obtain ⟨p, xs, rfl, s, al⟩ := b.tup'
    exact ⟨p, xs, rfl, .inr s.sq, by rw [al.len]; exact q _ H Rr.rf (.int _)⟩
theorem d_lenL (h : Ev c te Γ k (.list ds)) : Ev c (tCB (rLen c.K) (tCons te tNil)) Γ .v (.int ds.length) :=
  d_cb (a_cons h a_nil) fun H O vs Q s q => by
    obtain ⟨x, rfl, b⟩ := s.one
    obtain ⟨p, xs, rfl, _, s, al⟩ := b.lst'
    exact ⟨p, xs, rfl, .inl s, by rw [al.len]; exact q _ H Rr.rf (.int _)⟩
theorem d_all {bs : List Bool} (h : Ev c te Γ k (.list (bs.map .bool))) : Ev c (tCB (rAll c.K) (tCons te tNil)) Γ .v (.bool (bs.all id)) :=
  d_cb (a_cons h a_nil) fun H O vs Q s q => by
    obtain ⟨x, rfl, b⟩ := s.one
    obtain ⟨p, xs, rfl, _, s, al⟩ := b.lst'
    have := al.bools
    subst this
    exact ⟨p, bs, rfl, s, q _ H Rr.rf (.bl _)⟩
theorem d_any {bs : List Bool} (h : Ev c te Γ k (.list (bs.map .bool))) : Ev c (tCB (rAny c.K) (tCons te tNil)) Γ .v (.bool (bs.any id)) :=
  d_cb (a_cons h a_nil) fun H O vs Q s q => by
    obtain ⟨x, rfl, b⟩ := s.one
    obtain ⟨p, xs, rfl, _, s, al⟩ := b.lst'
    have := al.bools
    subst this
    exact ⟨p, bs, rfl, s, q _ H Rr.rf (.bl _)⟩
theorem d_sumL {ns : List Int} (h : Ev c te Γ k (.list (ns.map .int))) : Ev c (tCB (rSum c.K) (tCons te tNil)) Γ .v (.int ns.sum) :=
  d_cb (a_cons h a_nil) fun H O vs Q s q => by
    obtain ⟨x, rfl, b⟩ := s.one
    obtain ⟨p, xs, rfl, _, s, al⟩ := b.lst'
    have := al.ints
    subst this
    exact ⟨p, ns, rfl, s, q _ H Rr.rf (.int _)⟩
theorem n_tuple {P : List PyData → Prop} (h : EvN c te Γ k (fun d => ∃ ds, d = .list ds ∧ P ds)) (hf : ∀ ds, P ds → flatAll ds = true) : EvN c (tCB (rTuple c.K) (tCons te tNil)) Γ .v (fun d => ∃ ds, d = .tuple ds ∧ P ds) := fun H0 O H σ e Q q =>
  h H0 O H σ e _ fun v d H1 ⟨ds, hd, pd⟩ r s => by
    subst hd
    obtain ⟨p, xs, rfl, _, sl, al⟩ := (Res.bo e s).lst'
    refine ⟨p, xs, rfl, .inl ⟨sl, newTk (c := c) fun p' H2 hp sm tp => q _ (.tuple ds) H2 ⟨ds, rfl, pd⟩ (r.tr (Rr.same sm)) ?_⟩⟩
    have r2 : Rr c H H2 := r.tr (Rr.same sm)
    exact .tup (tpN_mns e r2 tp) ((al.same sm).flatTo (fun a xs s => sqT_mns (fun b hb => (e.on r2).dm b hb) s) (hf ds pd))
theorem d_tuple (h : Ev c te Γ k (.list ds)) (hf : flatAll ds = true) : Ev c (tCB (rTuple c.K) (tCons te tNil)) Γ .v (.tuple ds) :=
  ((n_tuple (P := fun es => es = ds) (h.n.imp fun d hd => ⟨ds, hd, rfl⟩) fun es he => he ▸ hf).imp fun d ⟨es, h1, h2⟩ => by rw [h1, h2]).det
end Lm

namespace Lm
open PySem PySem.Spec PyProof.Rows L2
variable {c : Ct} {H H' H0 H1 H2 H3 : Hp} {O : List Addr} {σ : L2.St} {Γ Γ' Γ1 : List (Option Rs)}
variable {te ta tb tx tl : TE} {tt tu : TT} {tr : TA} {k ka kb : Kd} {d x y z : PyData} {i j : Int} {a b : Bool} {kv fz : Bool} {ds es : List PyData}

/-! ### promises of defs over data -/
abbrev pc (K : PySem.W.Frag) : Ct := ⟨K, none⟩
/-- args, how the answer is held, the answer -/
abbrev Pre := List PyData → Kd → PyData → Prop
def spD (K : PySem.W.Frag) (pre : Pre) : Sp := fun vs H Q _ => ∃ ds k d, BoAll (pc K) H vs ds ∧ pre ds k d ∧ ∀ v H', Same H H' → Rt (pc K) H H' v d k → Q v H'
/-- with the stream first: one of several answers -/
abbrev PreS := List PyData → Kd → (PyData → Prop) → Prop
abbrev sc (K : PySem.W.Frag) (st l : Addr) : Ct := ⟨K, some (st, l)⟩
def spS (K : PySem.W.Frag) (pre : PreS) : Sp := fun vs H Q _ => ∃ st l vs' ds k P, vs = .ref st :: vs' ∧ Str1 K st l H ∧ BoAll (sc K st l) H vs' ds ∧ pre ds k P ∧ ∀ v d H', P d → Rr (sc K st l) H H' → Rt (sc K st l) H H' v d k → Q v H'
mutual
theorem Fo.ct {c' : Ct} (hk : c'.K = c.K) : ∀ {v : V} {d : PyData} {fp : List Addr}, Fo c H v d fp → Fo c' H v d fp
  | _, _, _, .leaf q b => .leaf q (b.flat hk q)
  | _, _, _, .lst e a => .lst e (FoAll.ct hk a)
theorem FoAll.ct {c' : Ct} (hk : c'.K = c.K) : ∀ {v : List V} {d : List PyData} {fp : List Addr}, FoAll c H v d fp → FoAll c' H v d fp
  | _, _, _, .nil => .nil
  | _, _, _, .cons a b => .cons (Fo.ct hk a) (FoAll.ct hk b)
end
theorem Rt.res {v : V} (e : Env c H0 O H σ Γ) (r : Rr c H H2) (h : Rt c H H2 v d k) : Res c O H H2 v d k := by
  cases k with
  | v => exact Bo.flatM e r h.1 h.2
  | o => exact h
  | b => exact h.elim
theorem d_call {pre : Pre} {E : XK} (h : EvA c tr Γ false ds) (hp : pre ds k d) : Ev c (tCall (spD c.K pre) [] E tr) Γ k d := fun H0 O H σ e Q q =>
  h H0 O H σ e _ fun vs H1 r s => by
    refine ⟨ds, k, d, by rw [List.append_nil]; exact s.pure, hp, fun v H2 sm rt => q v H2 (r.tr (Rr.same sm)) ?_⟩
    have r2 : Rr c H H2 := r.tr (Rr.same sm)
    cases k with
    | v => exact (Bo.flat (c := pc c.K) (c' := c) rfl rt.1 rt.2).flatM e r2 rt.1
    | o =>
      obtain ⟨fp, f, nd, new⟩ := rt
      exact ⟨fp, Fo.ct (c := pc c.K) (c' := c) rfl f, nd, fun a ha => r.back e.jH (new a ha)⟩
    | b => exact rt.elim
theorem n_call {pre : PreS} {E : XK} {st l : Addr} {P : PyData → Prop} {n : Nat} (hc : c.so = some (st, l)) (hst : Γ[n]? = some (some (.r (.ref st)))) (h : EvA c tr Γ false ds) (hp : pre ds k P) :
    EvN c (tCall (spS c.K pre) [] E (tCons (tVar n) tr)) Γ k P := fun H0 O H σ e Q q => by
  have hcc : c = sc c.K st l := by cases c; cases hc; rfl
  refine ⟨_, e.slotR hst, h H0 O H σ e _ fun vs H1 r s => ?_⟩
  refine ⟨st, l, vs, ds, k, P, by simp, (e.on r).jH st l hc, by rw [← hcc]; exact s, hp, fun v d H2 pd r2 rt => ?_⟩
  rw [← hcc] at r2 rt
  refine q v d H2 pd (r.tr r2) ?_
  exact (Rt.res (e.on r) r2 rt).back e r
/-! ### a def's body -/
def argsG (ds : List PyData) (n : Nat) : List (Option Rs) := ds.map (fun d => some (.v d)) ++ List.replicate (n - ds.length) none
theorem reps_none {O : List Addr} : ∀ n : Nat, Reps c O H (List.replicate n none) (List.replicate n none) []
  | 0 => .nil
  | n + 1 => .cons (f := []) (fs := []) rfl (reps_none n)
theorem reps_args {O : List Addr} {rest : L2.St} {restG : List (Option Rs)} (hr : Reps c O H rest restG []) : ∀ {vs : List V} {ds : List PyData}, BoAll c (mns H O) vs ds → Reps c O H (vs.map some ++ rest) (ds.map (fun d => some (.v d)) ++ restG) []
  | _, _, .nil => hr
  | _, _, .cons a b => .cons (f := []) (fs := []) ⟨rfl, _, rfl, a⟩ (reps_args hr b)
theorem env_args {N : List Str} {vs : List V} (j : Ji c H) (h : BoAll c H vs ds) : Env c H [] H (start N vs) (argsG ds N.length) := by
  refine ⟨Rr.same (by rw [mns_nil]; exact Same.refl _), by rw [mns_nil]; exact j, (fun _ h => nomatch h), (fun _ h => nomatch h), [], ?_, List.nodup_nil, (fun _ h => nomatch h)⟩
  unfold L2.start argsG
  rw [h.len]
  exact reps_args (reps_none _) (by rw [mns_nil]; exact h)
theorem Ji.pc {K : PySem.W.Frag} {H : Hp} : Ji (pc K) H := fun _ _ e => nomatch e
/-- the body of a def without the stream -/
theorem run_pure {K : PySem.W.Frag} {N : List Str} {t : TS} {pre : Pre} {vs : List V} {Q : VK} {E : XK} (hs : ∀ ds k d, pre ds k d → Sd (pc K) t (argsG ds N.length) (fun o => o = .rt k d ∨ (k = .v ∧ d = .none ∧ ∃ Γ, o = .nx Γ)))
    (h : spD K pre vs H Q E) : t { nx := fun _ H' => Q .non H', rt := Q } (start N vs) H := by
  obtain ⟨ds, k, d, hb, hp, hq⟩ := h
  have sm : ∀ H', Rr (Lm.pc K) H H' → Same H H' := fun H' r a o z => r.1 a o (fun _ _ e => nomatch e) z
  refine hs ds k d hp H [] H (start N vs) _ (env_args Ji.pc hb) fun o po => ?_
  rcases po with rfl | ⟨rfl, rfl, Γ, rfl⟩
  · exact fun v H' r rt => hq v H' (sm H' r) rt
  · intro O H' σ e
    exact hq .non H' (sm H' (e.r0.tr (Rr.same mns_same))) ⟨rfl, .non⟩
theorem spD_len {K : PySem.W.Frag} {pre : Pre} {vs : List V} {Q : VK} {E : XK} {n : Nat} (h : spD K pre vs H Q E) (hl : ∀ ds k d, pre ds k d → ds.length = n) : vs.length = n := by
  obtain ⟨ds, k, d, hb, hp, _⟩ := h
  rw [hb.len, hl ds k d hp]
/-- the body of a def with the stream first -/
theorem run_str {K : PySem.W.Frag} {N : List Str} {t : TS} {pre : PreS} {vs : List V} {Q : VK} {E : XK}
    (hs : ∀ st l ds k P, pre ds k P → Sd (sc K st l) t (some (.r (.ref st)) :: (ds.map (fun d => some (.v d)) ++ List.replicate (N.length - (ds.length + 1)) none)) (fun o => ∃ d, o = .rt k d ∧ P d))
    (h : spS K pre vs H Q E) : t { nx := fun _ H' => Q .non H', rt := Q } (start N vs) H := by
  obtain ⟨st, l, vs', ds, k, P, rfl, hst, hb, hp, hq⟩ := h
  have j : Ji (sc K st l) H := fun st' l' e => by cases e; exact hst
  refine hs st l ds k P hp H [] H (start N (.ref st :: vs')) _ ⟨Rr.same (by rw [mns_nil]; exact Same.refl _), by rw [mns_nil]; exact j, (fun _ h => nomatch h), (fun _ h => nomatch h), [], ?_, List.nodup_nil, (fun _ h => nomatch h)⟩ fun o po => ?_
  · unfold L2.start
    have : (V.ref st :: vs').length = ds.length + 1 := by simp [hb.len]
    rw [this]
    exact .cons (f := []) (fs := []) ⟨rfl, rfl⟩ (reps_args (reps_none _) (by rw [mns_nil]; exact hb))
  · obtain ⟨d, rfl, pd⟩ := po
    exact fun v H' r rt => hq v d H' pd r rt
theorem spS_len {K : PySem.W.Frag} {pre : PreS} {vs : List V} {Q : VK} {E : XK} {n : Nat} (h : spS K pre vs H Q E) (hl : ∀ ds k P, pre ds k P → ds.length + 1 = n) : vs.length = n := by
  obtain ⟨st, l, vs', ds, k, P, rfl, _, hb, hp, _⟩ := h
  simp [hb.len, hl ds k P hp]
/-- what a caller knows of a def: where it stands, what it promises -/
structure Cal (P : Program) (w : World) (K : PySem.W.Frag) (mg : Str → Option Value) (base : Heap) (CX : CXT) (k : Nat) (x : Str) (ps : List Str) (sp : Sp) : Prop where
  ok : ∃ f fd, FnOk P w K mg base CX k f fd ps sp ∧ mg x = some (.ref f) ∧ PySem.W.keepIn K (.ref f) = true ∧ Binds K fd ps []
section
variable {X : Cx}
theorem pe_cal {CX : CXT} {E : XK} {k : Nat} {x : Str} {ps : List Str} {sp : Sp} {p pos : Pos} {e : Expr} {es : List Expr} {t : TA} (F : Cal X.prog X.w X.K X.mg X.base CX k x ps sp) (hr : Room k X.A) (hg : Gl X x) (hx : Passes CX X E) (ha : PA X (e :: es) t)
    (hdb : (x == ("__debug__" : Str)) = false := by decide) (he : starEach (e :: es) X.env = (false, eval e X.env) :: starEach es X.env := by rfl) (hpl : (backTo pos (starEach es X.env)).any (·.1) = false := by rfl) :
    PE X (.Call (.Name x p) (e :: es) [] pos) (tCall sp [] E t) := by
  obtain ⟨f, fd, F1, F2, F3, F4⟩ := F.ok
  exact pe_call F1 hr hg F2 F3 F4 .nil hx ha hdb he hpl
end
/-! ### methods of tuples -/
theorem d_count {ns : List Int} (h : Ev c ta Γ ka (.tuple (ns.map .int))) (hb : Ev c tb Γ kb (.int i)) : Ev c (tTM c.K (rCountT c.K) ta (tCons tb tNil)) Γ .v (.int (ns.count i : Nat)) := fun H0 O H σ e Q q =>
  h H0 O H σ e _ fun v H1 r1 s1 => by
    obtain ⟨p, xs, rfl, s, al⟩ := (Res.bo e s1).tup'
    refine ⟨⟨p, xs, rfl, s⟩, hb H0 O H1 σ (e.on r1) _ fun u H2 r2 s2 => ?_⟩
    obtain ⟨p', xs', e', s', al'⟩ := (Res.bo e (Res.on e r1 r2 s1)).tup'
    cases e'
    have := al'.ints
    subst this
    exact ⟨p, ns, i, rfl, by rw [(Res.bo (e.on r1) s2).int'], s'.sq, q _ H2 (r1.tr r2) (.int _)⟩
end Lm

namespace Lm
open PySem PySem.Spec PyProof.Rows L2
/-! ### enumerate(tuple) -/
/-- the turns of enumerate over the tuple at a: its items as they stand, each in a pair -/
def IteT (K : PySem.W.Frag) (a : Addr) : It where
  go := fun i H => ∃ (xs : List V) (x : V), SqT K H a xs ∧ xs[i]? = some x
  yld := fun i H v H' => ∃ T x, v = .ref T ∧ H T = none ∧ H' = upd H T (.tup [.int (i : Nat), x]) ∧ ∀ xs, SqT K H a xs → xs[i]? = some x
  stop := fun i H => ∃ xs : List V, SqT K H a xs ∧ xs.length = i
theorem turnEnumT {P : Program} {w : World} {K : PySem.W.Frag} {elts : List Expr} {kk : Nat} {tpos : Pos} (a e it : Addr) :
    Turn P w K (.Tuple elts kk tpos) (IteT K a) [e, it] e fun i h => (∃ old, IsEnum h e it ((i : Nat) : Int) old) ∧ h.IsTupleIter it a i ∧ e ≠ it ∧ a ≠ it where
  mem := List.mem_cons_self
  obj := by
    rintro i h ⟨⟨old, he⟩, ⟨o, ho, hc, hd⟩, _⟩ b hb
    rcases List.mem_cons.mp hb with rfl | hb
    · exact ⟨_, he, fun v q => nomatch q⟩
    · cases List.mem_singleton.mp hb
      exact ⟨o, ho, fun v q => by rw [hd] at q; cases q⟩
  keep := by
    rintro i h h' ⟨⟨old, he⟩, hi, hne⟩ k
    exact ⟨⟨old, k e List.mem_cons_self _ he⟩, hi.at fun o q => k it (List.mem_cons_of_mem _ List.mem_cons_self) o q, hne⟩
  item := by
    intro X hP hw hK hc i pins s σ H E I hf ⟨⟨old, he⟩, hit, hne, hai⟩ ⟨xs, x, hq, hx⟩
    subst hP hw hK
    obtain ⟨its, rv, p, hz⟩ := I.tuple hq
    obtain ⟨u, hu, ru⟩ := rv.get hx
    have hlt : i < its.toArray.size := by rw [List.size_toArray]; exact (List.getElem?_eq_some_iff.mp hu).1
    have hel := Heap.lt_size he
    have hil : it < s.heap.objs.size := let ⟨_, q, _⟩ := hit; Heap.lt_size q
    have hea : e ≠ a := fun z => by
      have h0 := (hf e List.mem_cons_self).1
      obtain ⟨ob, g, gc, n, gd⟩ := p
      rw [← z, he] at g
      cases g
      exact absurd gc (by simp)
    have DT := Draws.tuple (prog := X.prog) (w := X.w) (A := X.A.in1) (show X.A.in1.handled = none from I.ok.hd hc) it a hai its.toArray
    refine PySem.wpAny_pyNext_enum_itemD DT he ⟨hit, p⟩ hlt hne (by simpa [hne] using hea) fun x' h' tk hx' ho hs' hT hsz hk => ?_
    have ex : x' = u := by
      have : its[i]? = some x' := by simpa using hx'
      rw [hu] at this
      exact (Option.some.inj this).symm
    subst ex
    refine ⟨_, rfl, wpAny_letOwnedTupleGo_enum (s := { s with heap := h', toks := tk + 1 }) ho fun h'' he' sb => ?_⟩
    have hT2 := (sb.2 _ (Nat.ne_of_gt hel)).trans hT
    have new : ObjOk X.prog X.w (upd H s.heap.objs.size (.tup [.int (i : Nat), x])) h'' s.heap.objs.size (.tup [.int (i : Nat), x]) :=
      ⟨(by decide : 2 ≤ sizeLine), [.int i tk, x'], .cons ⟨_, rfl⟩ (.cons ru .nil), _, hT2, rfl, _, rfl⟩
    have I1 := I.turnedNew (t' := tk + 1) (ch := [e, it]) (fun b ob hb q => (sb.2 b fun z => hb (z ▸ List.mem_cons_self)).trans (hk b ob (fun z => hb (z ▸ List.mem_cons_self)) (fun z => hb (z ▸ List.mem_cons_of_mem _ List.mem_cons_self)) q)) hf (Nat.le_refl _) new
    refine ⟨.ref s.heap.objs.size, _, I1, rfl, ⟨_, x, rfl, I.hok.fresh (Nat.le_refl _), rfl, fun ys hy => by rw [I.tuple_inj hy hq]; exact hx⟩, ⟨⟨x', ?_⟩, hs'.1.at fun o q => (sb.2 it hne.symm).trans q, hne, hai⟩, fun b hb => ?_⟩
    · have e1 : ((i + 1 : Nat) : Int) = (i : Int) + 1 := by omega
      rw [e1]; exact he'
    · have hb' : b < s.heap.objs.size := by
        rcases List.mem_cons.mp hb with rfl | hb
        · exact hel
        · cases List.mem_singleton.mp hb; exact hil
      rw [upd_ne (Nat.ne_of_lt hb')]
      exact (hf b hb).1
  done := by
    intro X hP hw hK hc i pins s σ H E I hf ⟨⟨old, he⟩, hit, hne, hai⟩ ⟨xs, hq, hx⟩
    subst hP hw hK
    obtain ⟨its, rv, p, hz⟩ := I.tuple hq
    obtain ⟨f0, f1, f2, f3, f4, f5⟩ := hf it (List.mem_cons_of_mem _ List.mem_cons_self)
    have hl : its.toArray.size = i := by rw [List.size_toArray, ← rv.length]; exact hx
    have DT := Draws.tuple (prog := X.prog) (w := X.w) (A := X.A.in1) (show X.A.in1.handled = none from I.ok.hd hc) it a hai its.toArray
    rw [hl] at DT
    exact PySem.wpAny_pyNext_enum_endD DT he ⟨hit, p⟩
      fun h' eb => ⟨rfl, I.turned (t' := s.toks) (fun b o hb q => eb b o hb q) f0 f1 f3 f4 f5⟩
  self := fun A i s Q E ⟨⟨_, he⟩, _⟩ h => wpAny_pyIter_enum he h
theorem meetsEnumT {l : Addr} {items : Array Value} :
    Meets (Builtin.«enumerate.__new__» ⟨[.type "enumerate", .ref l], []⟩) fun _ R s => s.heap.IsTuple l items ∧
      R (.ok (.ret (.ref (s.heap.push { cls := .type "tuple_iterator", data := .fields #[.ref l, .int 0 0] }).objs.size)))
        { s with heap := (s.heap.push { cls := .type "tuple_iterator", data := .fields #[.ref l, .int 0 0] }).push { cls := .type "enumerate", data := .fields #[.none, .bool false, .ref s.heap.objs.size, rawInt 0, .none, .none] } } :=
  .of_wp fun prog w A R s h => by
    obtain ⟨hp, g, d, tk, os⟩ := s
    obtain ⟨hl, h⟩ := h
    have q1 : ∀ {A' : Around} {E Q : Value → Shared → Prop}, Q (.ref hp.objs.size) ⟨hp.push { cls := .type "tuple_iterator", data := .fields #[.ref l, .int 0 0] }, g, d, tk, os⟩ → wpAny (model prog w) A' (pyIter (.ref l)) Q E ⟨hp, g, d, tk, os⟩ := fun q => wpAny_pyIter_tuple hl q
    have hsub := sub_enumerate
    wp_walk using q1
    refine wpAny_stack_any fun st => wpAny_pure ?_
    split
    · rename_i c _ _ _ _ _
      cases (c == Value.type "enumerate") <;> (wp_walk using q1; exact ⟨_, rfl, h⟩)
    · wp_walk using q1
      exact ⟨_, rfl, h⟩
theorem callEnumT {prog : Program} {w : World} {A : Around} {E : Value → Shared → Prop} {s : Shared} {l : Addr} {items : Array Value} {Q : Value → Shared → Prop} (hL : s.heap.IsTuple l items)
    (h : ∀ h', IsEnum h' (s.heap.objs.size + 1) s.heap.objs.size 0 .none → h'.IsTupleIter s.heap.objs.size l 0 → (∀ b o, s.heap.get? b = some o → h'.get? b = some o) → Q (.ref (s.heap.objs.size + 1)) { s with heap := h' }) :
    wpAny (model prog w) A (call (.type "enumerate") [.ref l]) Q E s := by
  refine callType_new F.called_enumerate (by decide) (F.typeCall_enumerate_1 _) (F.newCall_enumerate_1 _) (fun obj => F.args_object_init_2 obj _) F.entry_enumerate_new meetsEnumT ⟨hL, ?_⟩
  generalize hto : ({ cls := .type "tuple_iterator", data := .fields #[.ref l, .int 0 0] } : Obj) = to
  have hz : (s.heap.push to).objs.size = s.heap.objs.size + 1 := Heap.size_push ..
  show _ ∧ _
  rw [hz]
  have he : IsEnum ((s.heap.push to).push { cls := .type "enumerate", data := .fields #[.none, .bool false, .ref s.heap.objs.size, rawInt 0, .none, .none] }) (s.heap.objs.size + 1) s.heap.objs.size 0 .none := by
    have := Heap.get?_push_size (s.heap.push to) (o := { cls := .type "enumerate", data := .fields #[.none, .bool false, .ref s.heap.objs.size, rawInt 0, .none, .none] }) rfl
    rw [hz] at this
    exact this
  have hfree : to.isFreed = false := by rw [← hto]; rfl
  refine ⟨⟨_, he, rfl⟩, h _ he ?_ fun b o x => Heap.get?_push_of_some _ (Heap.get?_push_of_some _ x)⟩
  exact ⟨to, Heap.get?_push_of_some _ (Heap.get?_push_size _ hfree), by rw [← hto], by rw [← hto]; rfl⟩
def iEnumA (K : PySem.W.Frag) (ta : TA) : TI := fun σ H R => ta σ H fun vs H1 => ∃ a xs, vs = [.ref a] ∧ ((SqL K H1 a xs ∧ R (Ite K a) H1) ∨ (SqT K H1 a xs ∧ R (IteT K a) H1))
theorem pi_enumA {X : Cx} {e : Expr} {ta : TA} {p pos tpos : Pos} {elts : List Expr} {kk : Nat} (hg : Gl X "enumerate") (hm : X.mg "enumerate" = none) (ha : PA X [e] ta) (hs : starEach [e] X.env = [(false, eval e X.env)] := by rfl) :
    PI X (.Tuple elts kk tpos) (.Call (.Name "enumerate" p) [e] [] pos) (iEnumA X.K ta) := by
  refine ⟨fun pins s σ H R I h => Call_ (ld_blt I hg hm boot_enumerate (PyProof.Rows.callWith_type1 (thn (ha.run pos pins s σ H _ I h) fun us s1 ⟨vs, H1, I1, r1, q1⟩ => ?_) hs rfl))⟩
  obtain ⟨a, xs, rfl, q⟩ := q1
  obtain ⟨u, rfl, ru⟩ := vals1 r1
  cases ru
  have fresh2 : ∀ b ∈ [s1.heap.objs.size + 1, s1.heap.objs.size], FpOk X pins H1 b := fun b hb => by
    have hle : s1.heap.objs.size ≤ b := by
      rcases List.mem_cons.mp hb with rfl | hb
      · exact Nat.le_succ _
      · cases List.mem_singleton.mp hb; exact Nat.le_refl _
    exact I1.fpOk hle (I1.hok.fresh hle)
  rcases q with ⟨hq, q⟩ | ⟨hq, q⟩
  · obtain ⟨its, rv, p', hz⟩ := I1.list hq
    refine call_enumerate_list p'.isList fun h' he hit hsz hk => wpAny_pyIter_enum he ?_
    exact ⟨_, _, _, _, H1, rfl, I1.kept (t' := s1.toks) hk, turn_enum a (s1.heap.objs.size + 1) s1.heap.objs.size, ⟨⟨.none, he⟩, hit, Nat.succ_ne_self _⟩, fresh2, q⟩
  · obtain ⟨its, rv, p', hz⟩ := I1.tuple hq
    have ha : a < s1.heap.objs.size := let ⟨_, g, _⟩ := p'; Heap.lt_size g
    refine callEnumT p' fun h' he hit hk => wpAny_pyIter_enum he ?_
    exact ⟨_, _, _, _, H1, rfl, I1.kept (t' := s1.toks) hk, turnEnumT a (s1.heap.objs.size + 1) s1.heap.objs.size, ⟨⟨.none, he⟩, hit, Nat.succ_ne_self _, Nat.ne_of_lt ha⟩, fresh2, q⟩
theorem walk_enumT {K : PySem.W.Frag} {a : Addr} {xs : List V} : Walk (IteT K a) xs.length (fun H => SqT K H a xs) (YPair (fun i => some (.int (i : Nat))) fun i => xs[i]?) where
  goes := fun i _ hi q => ⟨xs, xs[i], q, List.getElem?_eq_getElem hi⟩
  stops := fun _ q => ⟨xs, q, rfl⟩
  yields := fun i H v H' _ q ⟨T, x, h1, h2, h3, h4⟩ => ⟨T, _, x, h1, h2, h3, rfl, h4 xs q⟩
end Lm

namespace Lm
open PySem PySem.Spec PyProof.Rows L2
/-- the greatest one of these and m -/
def mxOf (m : Int) (ns : List Int) : Int := ns.foldl (fun m n => if n > m then n else m) m
section
variable {prog : Program} {w : World} {A : Around} {E : Value → Shared → Prop} {s : Shared}
/-- a call of a built-in function with keywords, by its tree -/
theorem callFnKw {id : String} {b : Builtin} {args : List Value} {kw : List (Str × Value)} {Q : Value → Shared → Prop} (hk : builtinKind id = none) (hp : plainId id = true) (hb : entryFor table id = some b) (ha : argsOk id ⟨args, kw⟩)
    (hc : wpAny (model prog w) A.in1 (b ⟨args, kw⟩) (fun fin s' => match fin with
      | .done f => (match (Except.ok f : Result) with | .ok (.ret v) => Q v s' | .ok _ => False | .error e => E e s')
      | .again c' => c'.quiet = true ∧ codeAny (model prog w) A c' (fun r s' => match r with | .ok (.ret v) => Q v s' | .ok _ => False | .error e => E e s') s') E s) :
    wpAny (model prog w) A (call (.builtin id) args kw) Q E s := by
  refine wpAny_call (codeAny_call_builtin hp hb ?_)
  simp only [checkBuiltinCall, hk]
  cases hsig : Manifest.signature? id with
  | none => exact wpAny_pure hc
  | some sig =>
    have h2 : Bind.checkArgs id sig ⟨args, kw⟩ = pure () := by simpa only [argsOk, hsig] using ha
    show wpAny _ A.in1 (Bind.checkArgs id sig ⟨args, kw⟩) _ _ s
    exact h2 ▸ wpAny_pure hc
/-- max's loop with any keywords, from the j-th item on, the greatest so far being m -/
theorem maxLoopKw {R : Result → Shared → Prop} {I a S : Addr} {its : Array Value} {ns : List Int} {kw : List (Str × Value)} (hh : A.handled = none) (hi : IntsAre its.toList ns) (hSI : S ≠ I) (hSa : S ≠ a) (haI : a ≠ I) :
    ∀ (k j : Nat) (s : Shared) (m : Int) (t : Tok) (c : Nat), ns.length - j = k → j ≤ ns.length → s.heap.IsTupleIter I a j → s.heap.IsTuple a its → s.heap.get? S = some { cls := .type "list", data := .seq #[.int m t, .int m t] c } →
    (∀ h' tk t', (∀ b o, b ≠ I → b ≠ S → s.heap.get? b = some o → h'.get? b = some o) → R (.ok (.ret (.int (mxOf m (ns.drop j)) t'))) { s with heap := h', toks := tk }) →
    codeAny (model prog w) A (.builtin "max.loop" ⟨[.ref I, .none, .ref S], kw⟩) R s := by
  have hname : (toString "max" ++ toString ".loop" : String) = "max.loop" := by decide
  have hsz : its.size = ns.length := by rw [← Array.length_toList]; exact hi.length
  have W := Walks.tuple (prog := prog) (w := w) (A := A.in1) hh I a haI its
  intro k
  induction k with
  | zero =>
    intro j s m t c hk hj hit ht hS hR
    have e : j = ns.length := by omega
    subst e
    refine codeAny_builtin F.entry_max_loop ?_
    rw [Around.under_plainId F.plain_max_loop _]
    show wpAny _ A.in1 (seqItems? (.ref S) >>= _) _ _ s
    refine wpAny_bind (wpAny_seqItems hS rfl (wpAny_bind (wpAny_tryCatch (W.done s _ _ (hsz ▸ ⟨hit, ht⟩) fun h' tk hk' => ?_))))
    have hS' := hk' S _ (by simpa using hSI) hS
    show wpAny _ A.in1 (updateSeq S (fun _ => #[]) >>= _) _ _ _
    refine wpAny_bind (wpAny_updateSeq hS' rfl (wpAny_bind (wpAny_letGo (wpAny_pure ?_))))
    have := hR (h'.update S (Obj.mapSeq fun _ => #[])) tk t fun b o hb hb' q => (Heap.get?_update_other _ _ hb'.symm).trans (hk' b o (by simpa using hb) q)
    rw [List.drop_length] at this
    exact this
  | succ k ih =>
    intro j s m t c hk hj hit ht hS hR
    have hlt : j < ns.length := by omega
    obtain ⟨tj, hjt⟩ := hi.get j ns[j] (List.getElem?_eq_getElem hlt)
    refine codeAny_builtin F.entry_max_loop ?_
    rw [Around.under_plainId F.plain_max_loop _]
    show wpAny _ A.in1 (seqItems? (.ref S) >>= _) _ _ s
    refine wpAny_bind (wpAny_seqItems hS rfl (wpAny_bind (wpAny_tryCatch (W.item j s _ _ (by omega) ⟨hit, ht⟩ fun v h' tk hP hst' hk' => ?_))))
    have ev : v = .int ns[j] tj := by
      have h1 : its.toList[j]? = some v := by simpa using hP
      rw [hjt] at h1
      exact (Option.some.inj h1).symm
    subst ev
    have hS' := hk' S _ (by simpa using hSI) hS
    have hdrop : ns.drop j = ns[j] :: ns.drop (j + 1) := List.drop_eq_getElem_cons hlt
    have gt : ∀ (s0 : Shared) (Q0 E0 : Value → Shared → Prop), Q0 (.bool (decide (ns[j] > m))) s0 → wpAny (model prog w) A.in1 (richCompare .Gt (.int ns[j] tj) (.int m t)) Q0 E0 s0 := fun s0 Q0 E0 q =>
      CmpOf.ints_gt (A := A.in1) (P := fun i v => (i = 0 ∧ v = .int ns[j] tj) ∨ (i = 1 ∧ v = .int m t)) (fun i => if i = 0 then ns[j] else m) (by rintro i v (⟨rfl, rfl⟩ | ⟨rfl, rfl⟩) <;> exact ⟨_, rfl⟩) 0 1 _ _ s0 Q0 E0 (.inl ⟨rfl, rfl⟩) (.inr ⟨rfl, rfl⟩) (by simpa using q)
    refine wpAny_bind (wpAny_pure ?_)
    refine wpAny_bind (wpAny_tryCatch (wpAny_holding (wpAny_bind (gt _ _ _ (wpAny_bind (wpAny_holding (wpAny_truthy_bool (wpAny_bind (wpAny_letGo (wpAny_pure ?_))))))))))
    by_cases hb : ns[j] > m
    · simp only [hb, decide_true, if_true]
      have e2 : mxOf m (ns.drop j) = mxOf ns[j] (ns.drop (j + 1)) := by
        rw [hdrop]
        exact congrArg (fun z => mxOf z (ns.drop (j + 1))) (if_pos hb)
      refine wpAny_bind (wpAny_updateSeq hS' rfl (wpAny_bind (wpAny_letGo ?_)))
      rw [hname]
      have oth : ∀ b o, b ≠ S → h'.get? b = some o → (h'.update S (Obj.mapSeq fun _ => #[.int ns[j] tj, .int ns[j] tj])).get? b = some o := fun b o q e => (Heap.get?_update_other _ _ q.symm).trans e
      refine wpAny_pure ⟨plainId_quiet F.plain_max_loop _, ih (j + 1) _ ns[j] tj _ (by omega) hlt (hst'.1.at fun o q => oth _ _ hSI.symm q) (hst'.2.at fun o q => oth _ _ hSa.symm q) (Heap.get?_update_self _ hS' rfl) fun h'' tk'' t'' hk'' => ?_⟩
      exact e2 ▸ hR h'' tk'' t'' fun b o hbI hbS q => hk'' b o hbI hbS (oth b o hbS (hk' b o (by simpa using hbI) q))
    · simp only [hb, decide_false, Bool.false_eq_true, if_false]
      have e2 : mxOf m (ns.drop j) = mxOf m (ns.drop (j + 1)) := by
        rw [hdrop]
        exact congrArg (fun z => mxOf z (ns.drop (j + 1))) (if_neg hb)
      refine wpAny_bind (wpAny_letGo ?_)
      rw [hname]
      refine wpAny_pure ⟨plainId_quiet F.plain_max_loop _, ih (j + 1) _ m t c (by omega) hlt hst'.1 hst'.2 hS' fun h'' tk'' t'' hk'' => ?_⟩
      exact e2 ▸ hR h'' tk'' t'' fun b o hbI hbS q => hk'' b o hbI hbS (hk' b o (by simpa using hbI) q)
/-- max(t, default=d) of a tuple of ints -/
theorem callMaxD {a : Addr} {its : Array Value} {ns : List Int} {d : Value} {Q : Value → Shared → Prop} (hh : A.handled = none) (ht : s.heap.IsTuple a its) (hi : IntsAre its.toList ns)
    (h0 : ns = [] → ∀ h' tk, (∀ b o, s.heap.get? b = some o → h'.get? b = some o) → Q d { s with heap := h', toks := tk })
    (h1 : ∀ n ms, ns = n :: ms → ∀ h' tk t', (∀ b o, s.heap.get? b = some o → h'.get? b = some o) → Q (.int (mxOf n ms) t') { s with heap := h', toks := tk }) :
    wpAny (model prog w) A (call (.builtin "max") [.ref a] [("default", d)]) Q E s := by
  have hname : (toString "max" ++ toString ".loop" : String) = "max.loop" := by decide
  refine callFnKw F.kind_max F.plain_max F.entry_max (by unfold argsOk; kernel_rfl) ?_
  show wpAny _ A.in1 (Builtin.Builtins.bindParams "max" ["key", "default"] 0 ⟨[], [("default", d)]⟩ >>= _) _ _ s
  refine wpAny_bind (wpAny_of_eq (a := [none, some d]) rfl (wpAny_bind (wpAny_pure (wpAny_bind (wpAny_pyIter_tuple ht ?_)))))
  refine wpAny_bind (wpAny_newObj_type ?_)
  have haL : a < s.heap.objs.size := let ⟨_, g, _⟩ := ht; Heap.lt_size g
  generalize hhp : (s.heap.push { cls := .type "tuple_iterator", data := .fields #[.ref a, .int 0 0] }) = hp
  have hps : hp.objs.size = s.heap.objs.size + 1 := by rw [← hhp]; exact Heap.size_push ..
  have old : ∀ b o, s.heap.get? b = some o → hp.get? b = some o := fun b o q => by rw [← hhp]; exact Heap.get?_push_of_some _ q
  rw [hname]
  have W := Walks.tuple (prog := prog) (w := w) (A := A.in1) hh s.heap.objs.size a (Nat.ne_of_lt haL) its
  have sz : its.size = ns.length := by rw [← Array.length_toList]; exact hi.length
  have hS : (hp.push (seqObj "list" #[] 0)).get? hp.objs.size = some { cls := .type "list", data := .seq #[] 0 } := Heap.get?_push_size _ rfl
  have hitI : (hp.push (seqObj "list" #[] 0)).IsTupleIter s.heap.objs.size a 0 := ⟨_, Heap.get?_push_of_some _ (by rw [← hhp]; exact Heap.get?_push_size _ rfl), rfl, rfl⟩
  have htI : (hp.push (seqObj "list" #[] 0)).IsTuple a its := ht.at fun o q => Heap.get?_push_of_some _ (old _ _ q)
  have nIS : hp.objs.size ≠ s.heap.objs.size := by omega
  have nSa : hp.objs.size ≠ a := Nat.ne_of_gt (Nat.lt_of_lt_of_le haL (hps ▸ Nat.le_succ _))
  refine wpAny_pure ⟨plainId_quiet F.plain_max_loop _, codeAny_builtin F.entry_max_loop ?_⟩
  rw [Around.under_plainId F.plain_max_loop _]
  show wpAny _ A.in1 (seqItems? (.ref hp.objs.size) >>= _) _ _ _
  refine wpAny_bind (wpAny_seqItems hS rfl ?_)
  cases ns with
  | nil =>
    refine wpAny_bind (wpAny_tryCatch (W.done _ _ _ (sz ▸ ⟨hitI, htI⟩) fun h' tk hk => ?_))
    refine wpAny_bind (wpAny_rule (wpAny_pure ?_))
    exact h0 rfl h' tk fun b o q => hk b o (by simpa using Nat.ne_of_lt (Heap.lt_size q)) (Heap.get?_push_of_some _ (old b o q))
  | cons n ms =>
    obtain ⟨t0, ht0⟩ := hi.get 0 n rfl
    refine wpAny_bind (wpAny_tryCatch (W.item 0 _ _ _ (by rw [sz]; exact Nat.succ_pos _) ⟨hitI, htI⟩ fun v h' tk hP hst hk => ?_))
    have ev : v = .int n t0 := by
      have h1 : its.toList[0]? = some v := by simpa using hP
      rw [ht0] at h1
      exact (Option.some.inj h1).symm
    subst ev
    have hS' := hk _ _ (by simpa using nIS) hS
    refine wpAny_bind (wpAny_pure (wpAny_bind (wpAny_updateSeq hS' rfl ?_)))
    have oth : ∀ b o, b ≠ hp.objs.size → h'.get? b = some o → (h'.update hp.objs.size (Obj.mapSeq fun _ => #[.int n t0, .int n t0])).get? b = some o := fun b o q e => (Heap.get?_update_other _ _ q.symm).trans e
    rw [hname]
    refine wpAny_pure ⟨plainId_quiet F.plain_max_loop _, maxLoopKw hh hi nIS nSa (Nat.ne_of_lt haL) _ 1 _ n t0 _ rfl (Nat.succ_le_succ (Nat.zero_le _)) (hst.1.at fun o q => oth _ _ nIS.symm q) (hst.2.at fun o q => oth _ _ nSa.symm q) (Heap.get?_update_self _ hS' rfl) fun h'' tk'' t'' hk'' => ?_⟩
    refine h1 n ms rfl h'' tk'' t'' fun b o q => ?_
    have lb := Heap.lt_size q
    have b1 : b ≠ s.heap.objs.size := Nat.ne_of_lt lb
    have b2 : b ≠ hp.objs.size := Nat.ne_of_lt (Nat.lt_of_lt_of_le lb (hps ▸ Nat.le_succ _))
    exact hk'' b o b1 b2 (oth b o b2 (hk b o (by simpa using b1) (Heap.get?_push_of_some _ (old b o q))))
end
def rMaxDT (K : PySem.W.Frag) : List V → List V → Hp → VK → Prop := fun xs zs H Q => ∃ (a : Addr) (ns : List Int) (d : Int), xs = [.ref a] ∧ zs = [.int d] ∧ SqT K H a (ns.map V.int) ∧ Q (.int (match ns with | [] => d | n :: ms => mxOf n ms)) H
theorem cr_maxD {X : Cx} (hc : X.calm = true) : CallRK X (.builtin "max") [Str.ofString "default"] (rMaxDT X.K) := by
  intro pins s σ H vs zs us ws Q I r rz h
  obtain ⟨a, ns, d, rfl, rfl, hs, q⟩ := h
  obtain ⟨u, rfl, e⟩ := vals1 r
  cases e
  obtain ⟨w1, rfl, t, rfl⟩ := vals1 rz
  obtain ⟨its, rv, p, hz⟩ := I.tuple hs
  have hi := ints_of_vals rv
  refine callMaxD (ns := ns) (I.ok.hd hc) (show s.heap.IsTuple a its.toArray from p) hi (fun e h' tk hk => ?_) fun n ms e h' tk t' hk => ?_
  · subst e
    exact ⟨.int d, H, I.kept hk, ⟨_, rfl⟩, q⟩
  · subst e
    exact ⟨.int (mxOf n ms), H, I.kept hk, ⟨_, rfl⟩, q⟩
end Lm

namespace Lm
open PySem PySem.Spec PyProof.Rows L2
section
variable {X : Cx}
/-! ### rules that serve several kinds of values: the derivation need not know which -/
def rAddA (K : PySem.W.Frag) : R2 := fun x y H Q => rI0 (fun i j => .int (i + j)) x y H Q ∨ rCatN K x y H Q ∨ rCat x y H Q
theorem op_addA : OpR X (binaryOp .Add) (rAddA X.K) := op_add.or (op_catN.or op_cat)
def rMulA : R2 := fun x y H Q => rI CMul (fun i j => .int (i * j)) x y H Q ∨ rRep x y H Q
theorem op_mulA : OpR X (binaryOp .Mult) rMulA := op_mul.or op_rep
def rEqA (K : PySem.W.Frag) : R2 := fun x y H Q => rEq x y H Q ∨ rEqD K x y H Q
theorem op_eqA (hu : X.A.units + 64 < cLine) : OpR X (compareOp .Eq) (rEqA X.K) := op_eq.or (op_eqD hu)
def rNeA (K : PySem.W.Frag) : R2 := fun x y H Q => rNe x y H Q ∨ rNeD K x y H Q
theorem op_neA (hu : X.A.units + 64 < cLine) : OpR X (compareOp .NotEq) (rNeA X.K) := op_ne.or (op_neD hu)
def iSeq (K : PySem.W.Frag) (tl : TE) : TI := fun σ H R => iList K tl σ H R ∨ iTup K tl σ H R
theorem pi_seq {e tg : Expr} {tl : TE} (h : PE X e tl) : PI X tg e (iSeq X.K tl) := by
  refine ⟨fun pins s σ H R I q => ?_⟩
  rcases q with q | q
  · exact (pi_list h).run pins s σ H R I q
  · exact (pi_tup h).run pins s σ H R I q
def rUnits {k : Nat} {A : Around} (hr : Room k A) : A.units + 64 < cLine := by have := hr.un; omega
end
variable {c : Ct} {H H' H0 H1 H2 H3 : Hp} {O : List Addr} {σ : L2.St} {Γ Γ' Γ1 : List (Option Rs)}
variable {te ta tb tx tl : TE} {tt tu : TT} {tr : TA} {k ka kb kc : Kd} {d x y z : PyData} {i j : Int} {a b : Bool} {kv fz : Bool} {ds es : List PyData}
theorem e_add (ha : Ev c ta Γ ka (.int i)) (hb : Ev c tb Γ kb (.int j)) : Ev c (tOp (rAddA c.K) ta tb) Γ .v (.int (i + j)) :=
  d_bin ha hb fun H O v u Q bv bu q => .inl ⟨i, j, bv.int', bu.int', q _ H Rr.rf (.int _)⟩
theorem e_mul (ha : Ev c ta Γ ka (.int i)) (hb : Ev c tb Γ kb (.int j)) (h : CMul i j) : Ev c (tOp rMulA ta tb) Γ .v (.int (i * j)) :=
  d_bin ha hb fun H O v u Q bv bu q => .inl ⟨i, j, bv.int', bu.int', h, q _ H Rr.rf (.int _)⟩
theorem e_eqI (ha : Ev c ta Γ ka (.int i)) (hb : Ev c tb Γ kb (.int j)) : Ev c (tOp (rEqA c.K) ta tb) Γ .v (.bool (decide (i = j))) :=
  d_bin ha hb fun H O v u Q bv bu q => .inl ⟨by rw [bv.int', bu.int']; rfl, by rw [bv.int', bu.int', decI]; exact q _ H Rr.rf (.bl _)⟩
theorem e_neI (ha : Ev c ta Γ ka (.int i)) (hb : Ev c tb Γ kb (.int j)) : Ev c (tOp (rNeA c.K) ta tb) Γ .v (.bool (!decide (i = j))) :=
  d_bin ha hb fun H O v u Q bv bu q => .inl ⟨by rw [bv.int', bu.int']; rfl, by rw [bv.int', bu.int', decI]; exact q _ H Rr.rf (.bl _)⟩
theorem e_eqS {v w : V} (ha : Ev c ta Γ ka x) (hb : Ev c tb Γ kb y) (hx : scalD x = some v) (hy : scalD y = some w) (hs : scal v w = true) (hz : decide (v = w) = a) : Ev c (tOp (rEqA c.K) ta tb) Γ .v (.bool a) :=
  d_bin ha hb fun H O v' u' Q bv bu q => .inl ⟨by rw [bv.scal hx, bu.scal hy]; exact hs, by rw [bv.scal hx, bu.scal hy, hz]; exact q _ H Rr.rf (.bl _)⟩
theorem e_neS {v w : V} (ha : Ev c ta Γ ka x) (hb : Ev c tb Γ kb y) (hx : scalD x = some v) (hy : scalD y = some w) (hs : scal v w = true) (hz : (!decide (v = w)) = a) : Ev c (tOp (rNeA c.K) ta tb) Γ .v (.bool a) :=
  d_bin ha hb fun H O v' u' Q bv bu q => .inl ⟨by rw [bv.scal hx, bu.scal hy]; exact hs, by rw [bv.scal hx, bu.scal hy, hz]; exact q _ H Rr.rf (.bl _)⟩
theorem e_eqD (ha : Ev c ta Γ ka x) (hb : Ev c tb Γ kb y) (hx : SeqAt.shaped x = true) (hy : SeqAt.shaped y = true) : Ev c (tOp (rEqA c.K) ta tb) Γ .v (.bool (PyData.eqv x y)) :=
  d_bin ha hb fun H O v u Q bv bu q => .inr ⟨x, y, bv.dp, bu.dp, hx, hy, q _ H Rr.rf (.bl _)⟩
theorem e_neD (ha : Ev c ta Γ ka x) (hb : Ev c tb Γ kb y) (hx : SeqAt.shaped x = true) (hy : SeqAt.shaped y = true) : Ev c (tOp (rNeA c.K) ta tb) Γ .v (.bool (!PyData.eqv x y)) :=
  d_bin ha hb fun H O v u Q bv bu q => .inr ⟨x, y, bv.dp, bu.dp, hx, hy, q _ H Rr.rf (.bl _)⟩
theorem e_ixT (ha : Ev c ta Γ ka (.tuple ds)) (hb : Ev c tb Γ kb (.int i)) (he : atI ds i = some d) (hf : flatD d = true) : Ev c (tOp (rIx c.K) ta tb) Γ .v d := fun H0 O H σ e Q q =>
  ha H0 O H σ e _ fun v H1 r1 s1 => hb H0 O H1 σ (e.on r1) _ fun u H2 r2 s2 => by
    obtain ⟨p, xs, rfl, s, al⟩ := (Res.bo e (Res.on e r1 r2 s1)).tup'
    obtain ⟨x, hx, bx⟩ := atI_bo al he
    exact .inr (.inl ⟨p, xs, i, x, rfl, (Res.bo (e.on r1) s2).int', s.sq, hx, q x H2 (r1.tr r2) (Bo.flatM e (r1.tr r2) hf bx)⟩)
theorem e_ixL (ha : Ev c ta Γ ka (.list ds)) (hb : Ev c tb Γ kb (.int i)) (he : atI ds i = some d) (hf : flatD d = true) : Ev c (tOp (rIx c.K) ta tb) Γ .v d := fun H0 O H σ e Q q =>
  ha H0 O H σ e _ fun v H1 r1 s1 => hb H0 O H1 σ (e.on r1) _ fun u H2 r2 s2 => by
    obtain ⟨p, xs, rfl, _, s, al⟩ := (Res.bo e (Res.on e r1 r2 s1)).lst'
    obtain ⟨x, hx, bx⟩ := atI_bo al he
    exact .inl ⟨p, xs, i, x, rfl, (Res.bo (e.on r1) s2).int', s, hx, q x H2 (r1.tr r2) (Bo.flatM e (r1.tr r2) hf bx)⟩
/-- an item of a frozen tuple, whatever it is -/
theorem e_ixTv (ha : Ev c ta Γ .v (.tuple ds)) (hb : Ev c tb Γ kb (.int i)) (he : atI ds i = some d) : Ev c (tOp (rIx c.K) ta tb) Γ .v d := fun H0 O H σ e Q q =>
  ha H0 O H σ e _ fun v H1 r1 s1 => hb H0 O H1 σ (e.on r1) _ fun u H2 r2 s2 => by
    obtain ⟨p, xs, rfl, s, al⟩ := Bo.tup' (Res.on e r1 r2 s1)
    obtain ⟨x, hx, bx⟩ := atI_bo al he
    exact .inr (.inl ⟨p, xs, i, x, rfl, (Res.bo (e.on r1) s2).int', (sqT_same mns_same s).sq, hx, q x H2 (r1.tr r2) bx⟩)
theorem e_ixLv (ha : Ev c ta Γ .v (.list ds)) (hb : Ev c tb Γ kb (.int i)) (he : atI ds i = some d) : Ev c (tOp (rIx c.K) ta tb) Γ .v d := fun H0 O H σ e Q q =>
  ha H0 O H σ e _ fun v H1 r1 s1 => hb H0 O H1 σ (e.on r1) _ fun u H2 r2 s2 => by
    obtain ⟨p, xs, rfl, _, s, al⟩ := Bo.lst' (Res.on e r1 r2 s1)
    obtain ⟨x, hx, bx⟩ := atI_bo al he
    exact .inl ⟨p, xs, i, x, rfl, (Res.bo (e.on r1) s2).int', mns_same.seq s, hx, q x H2 (r1.tr r2) bx⟩
theorem e_ixLb (ha : Ev c ta Γ ka (.list ds)) (hb : Ev c tb Γ kb (.int i)) (he : atI ds i = some d) : Ev c (tOp (rIx c.K) ta tb) Γ .b d := fun H0 O H σ e Q q =>
  ha H0 O H σ e _ fun v H1 r1 s1 => hb H0 O H1 σ (e.on r1) _ fun u H2 r2 s2 => by
    obtain ⟨p, xs, rfl, _, s, al⟩ := (Res.bo e (Res.on e r1 r2 s1)).lst'
    obtain ⟨x, hx, bx⟩ := atI_bo al he
    exact .inl ⟨p, xs, i, x, rfl, (Res.bo (e.on r1) s2).int', s, hx, q x H2 (r1.tr r2) bx⟩
/-- a < b < c of ints -/
theorem d_chain {f g : Int → Int → Bool} {l : Int} (ha : Ev c ta Γ ka (.int i)) (hb : Ev c tb Γ kb (.int j)) (hc : f i j = true → Ev c tx Γ kc (.int l)) :
    Ev c (tChain (rI0 fun i j => .bl (f i j)) (rI0 fun i j => .bl (g i j)) ta tb tx) Γ .v (.bool (f i j && g j l)) := fun H0 O H σ e Q q =>
  ha H0 O H σ e _ fun v H1 r1 s1 => hb H0 O H1 σ (e.on r1) _ fun u H2 r2 s2 => by
    refine ⟨i, j, (Res.bo e s1).int', (Res.bo (e.on r1) s2).int', f i j, rfl, ?_⟩
    cases hf : f i j with
    | true =>
      refine iteT (hc hf H0 O H2 σ ((e.on r1).on r2) _ fun w H3 r3 s3 => ?_)
      exact ⟨j, l, (Res.bo (e.on r1) s2).int', (Res.bo ((e.on r1).on r2) s3).int', by
        have := q (.bl (g j l)) H3 ((r1.tr r2).tr r3)
        rw [hf, Bool.true_and] at this
        exact this (.bl _)⟩
    | false =>
      refine iteF ?_
      have := q (.bl false) H2 (r1.tr r2)
      rw [hf, Bool.false_and] at this
      exact this (.bl _)
/-! ### isinstance -/
def tyD : PyData → String
  | .none => "NoneType"
  | .bool _ => "bool"
  | .int _ => "int"
  | .str _ => "str"
  | .list _ => "list"
  | .tuple _ => "tuple"
  | .dict _ => "dict"
theorem Bo.ty {v : V} (h : Bo c H v d) : TyX c.K H v (.type (tyD d)) := by
  cases h with
  | non => exact .base .non
  | bl b => exact .base (.bl b)
  | int i => exact .base (.int i)
  | str x => exact .base (.str x)
  | lst _ s a =>
    rcases s with (s | ⟨o, s⟩) | ⟨o, its, n, h1, h2, _⟩
    · exact .base (.lst s)
    · exact .base (.frz s)
    · exact .kList h1 h2
  | tup s a =>
    rcases s with ⟨o, _, s⟩ | ⟨o, its, n, h1, h2, _⟩
    · exact .fTuple s
    · exact .kTuple h1 h2
theorem e_isi {n : String} (h : Ev c te Γ k d) (e : kitB (tyD d) n = some b) : Ev c (tCB (rIsi c.K) (tCons te (tCons (tC (.ty n)) tNil))) Γ .v (.bool b) := fun H0 O H σ en Q q =>
  h H0 O H σ en _ fun v H1 r1 s1 => ⟨v, .ty n, _, _, b, rfl, .ty n, (Res.bo en s1).ty, kit_ty e, q _ H1 r1 (.bl b)⟩
/-! ### what is walked -/
theorem i_seqL (h : Ev c tl Γ k (.list ds)) (hk : k ≠ .b) : EvI c (iSeq c.K tl) Γ true (ds.map Im.d) := fun H0 O H σ e R q => .inl (i_list h hk H0 O H σ e R q)
theorem i_seqB (h : Ev c tl Γ k (.list ds)) (hf : flatAll ds = true) : EvI c (iSeq c.K tl) Γ false (ds.map Im.d) := fun H0 O H σ e R q => .inl (i_listB h hf H0 O H σ e R q)
theorem i_seqT (h : Ev c tl Γ k (.tuple ds)) (hk : k ≠ .b) : EvI c (iSeq c.K tl) Γ true (ds.map Im.d) := fun H0 O H σ e R q => .inr (i_tup h hk H0 O H σ e R q)
/-- the places and the items -/
def enumI (ds : List PyData) : List Im := ds.zipIdx.map fun p => .t [.d (.int (p.2 : Nat)), .d p.1]
theorem enum_core {J : It} {xs : List V} {F : Hp} (jF : Ji c F) (hw : Walk J xs.length (fun H => Rr c F H) (YPair (fun i => some (.int (i : Nat))) fun i => xs[i]?)) (hb : BoAll c F xs ds) (hf : fz = true ∨ flatAll ds = true) : WD c F fz J (enumI ds) := by
  refine ⟨jF, ?_⟩
  have hl : xs.length = (enumI ds).length := by rw [hb.len]; simp [enumI]
  rw [hl] at hw
  refine hw.mono (fun _ h => h) fun i H x H' hi g y => ?_
  obtain ⟨T, x1, x2, rfl, hT, rfl, h1, h2⟩ := y
  cases h1
  obtain ⟨d, hd, bd⟩ := hb.get h2
  have sm : Same H (upd H T (.tup [.int (i : Nat), x2])) := fun b o z => by rw [upd_ne (ne_of_none z hT)]; exact z
  refine ⟨sm, .t [.d (.int (i : Nat)), .d d], ?_, .tup (.inl (.inl upd_same)) (.cons (.leaf (.inl ⟨rfl, .int _⟩)) (.cons (.leaf ?_) .nil))⟩
  · simp [enumI, hd]
  · rcases hf with hf | hf
    · exact .inr ⟨hf, bd⟩
    · exact .inl ⟨flatAll_one hf (List.mem_of_getElem? hd), bd.mono jF (g.tr (Rr.same sm))⟩
theorem i_enumT (h : EvA c tr Γ true [.tuple ds]) : EvI c (iEnumA c.K tr) Γ true (enumI ds) := fun H0 O H σ e R q =>
  h H0 O H σ e _ fun vs H1 r s => by
    obtain ⟨x, rfl, b⟩ := (BoAll.vm s).one
    obtain ⟨p, xs, rfl, sl, al⟩ := b.tup'
    exact ⟨p, xs, rfl, .inr ⟨(sqT_same mns_same sl).sq, q _ H1 r (enum_core (e.on r).j (walk_enumT.mono (fun H h => (h.tup (e.on r).j sl).sq) fun _ _ _ _ _ _ y => y) al (.inl rfl))⟩⟩
theorem i_enumL (h : Ev c te Γ k (.list ds)) (hf : flatAll ds = true) : EvI c (iEnumA c.K (tCons te tNil)) Γ false (enumI ds) := fun H0 O H σ e R q =>
  h H0 O H σ e _ fun v H1 r s => by
    obtain ⟨p, xs, rfl, kp, sl, al⟩ := (Res.bo e s).lst'
    exact ⟨p, xs, rfl, .inl ⟨sl, q _ H1 r (enum_core (e.on r).jH (walk_enum.mono (fun H h => h.lst kp sl) fun _ _ _ _ _ _ y => y) al (.inr hf))⟩⟩
/-- max(t, default=d) -/
def mxD (d : Int) : List Int → Int
  | [] => d
  | n :: ms => mxOf n ms
theorem e_maxD {ns : List Int} (h : Ev c ta Γ ka (.tuple (ns.map .int))) (hb : Ev c tb Γ kb (.int i)) : Ev c (tCKw (rMaxDT c.K) (tCons ta tNil) (tCons tb tNil)) Γ .v (.int (mxD i ns)) := fun H0 O H σ e Q q =>
  h H0 O H σ e _ fun v H1 r1 s1 => hb H0 O H1 σ (e.on r1) _ fun u H2 r2 s2 => by
    obtain ⟨p, xs, rfl, s, al⟩ := (Res.bo e (Res.on e r1 r2 s1)).tup'
    have := al.ints
    subst this
    refine ⟨p, ns, i, rfl, by rw [(Res.bo (e.on r1) s2).int'], s.sq, ?_⟩
    cases ns with
    | nil => exact q _ H2 (r1.tr r2) (.int _)
    | cons n ms => exact q _ H2 (r1.tr r2) (.int _)
end Lm

namespace Lm
open PySem PySem.Spec PyProof.Rows L2
section
variable {prog : Program} {w : World} {A : Around} {E : Value → Shared → Prop} {s : Shared}
/-- iter(t), what it takes to walk t -/
theorem iterTup {a : Addr} {its : Array Value} {Q : Value → Shared → Prop} (ht : s.heap.IsTuple a its)
    (h : ∀ s2 : Shared, s2 = { s with heap := s.heap.push { cls := .type "tuple_iterator", data := .fields #[.ref a, .int 0 0] } } → s2.heap.IsTupleIter s.heap.objs.size a 0 ∧ s2.heap.IsTuple a its → (∀ b ∈ [s.heap.objs.size, a], b < s2.heap.objs.size) → a ≠ s.heap.objs.size →
      (∀ b o, s.heap.get? b = some o → b ∉ [s.heap.objs.size] ∧ s2.heap.get? b = some o) → Q (.ref s.heap.objs.size) s2) : wpAny (model prog w) A (pyIter (.ref a)) Q E s := by
  have hlt : a < s.heap.objs.size := let ⟨_, g, _⟩ := ht; Heap.lt_size g
  refine wpAny_pyIter_tuple ht (h _ rfl ⟨⟨_, Heap.get?_push_size _ rfl, rfl, rfl⟩, ht.at fun o q => Heap.get?_push_of_some _ q⟩ (fun b hb => ?_) (Nat.ne_of_lt hlt) fun b o q => ⟨by simpa using Nat.ne_of_lt (Heap.lt_size q), Heap.get?_push_of_some _ q⟩)
  show b < (s.heap.push _).objs.size
  rw [Heap.size_push]
  rcases List.mem_cons.mp hb with rfl | hb
  · exact Nat.lt_succ_self _
  · cases List.mem_singleton.mp hb
    exact Nat.lt_succ_of_lt hlt
theorem preSum_take (ns : List Int) : ∀ j, j ≤ ns.length → preSum (fun i => ns.getD i 0) j = (ns.take j).sum
  | 0, _ => rfl
  | j + 1, h => by
    have e : ns[j]? = some ns[j] := List.getElem?_eq_getElem h
    rw [preSum, preSum_take ns j (Nat.le_of_succ_le h), sum_take e, List.getD_eq_getElem?_getD, e]
    rfl
theorem callSumT {a : Addr} {its : Array Value} {ns : List Int} {Q : Value → Shared → Prop} (hh : A.handled = none) (ht : s.heap.IsTuple a its) (hi : IntsAre its.toList ns)
    (h : ∀ h' tk t', (∀ b o, s.heap.get? b = some o → h'.get? b = some o) → Q (.int ns.sum t') { s with heap := h', toks := tk }) : wpAny (model prog w) A (call (.builtin "sum") [.ref a]) Q E s := by
  have hsz : its.size = ns.length := by rw [← Array.length_toList]; exact hi.length
  refine call_sum_walkG (iterTup ht fun s2 e st hfp hne old => ?_)
  refine ⟨_, _, _, ns.length, _, _, fun i => ns.getD i 0, rfl, hsz ▸ Walks.tuple (A := A.in1) hh _ a hne its, st, hfp, fun i v q => ?_, fun h' tk t' hk => ?_⟩
  · have h1 : its.toList[i]? = some v := by simpa using q
    have hlt : i < ns.length := by rw [← hi.length]; exact (List.getElem?_eq_some_iff.mp h1).1
    obtain ⟨t, h2⟩ := hi.get i ns[i] (List.getElem?_eq_getElem hlt)
    rw [h1] at h2
    refine ⟨t, ?_⟩
    show v = Value.int (ns.getD i 0) t
    rw [List.getD_eq_getElem?_getD, List.getElem?_eq_getElem hlt]
    exact Option.some.inj h2
  · rw [preSum_take ns _ (Nat.le_refl _), List.take_length]
    subst e
    exact h h' tk t' fun b o q => hk b o (old b o q).1 (old b o q).2
end
def rSumT (K : PySem.W.Frag) : List V → Hp → VK → Prop := fun vs H Q => ∃ (a : Addr) (ns : List Int), vs = [V.ref a] ∧ SqT K H a (ns.map V.int) ∧ Q (.int ns.sum) H
def rSumA (K : PySem.W.Frag) : List V → Hp → VK → Prop := fun vs H Q => rSum K vs H Q ∨ rSumT K vs H Q
section
variable {X : Cx}
theorem cr_sumT (hc : X.calm = true) : CallR X (.builtin "sum") (rSumT X.K) := by
  rintro pins s σ H vs us Q I r ⟨a, ns, rfl, hs, q⟩
  obtain ⟨its, rv, p, _⟩ := I.tuple hs
  rw [Vals.ref1 r]
  exact callSumT (I.ok.hd hc) (show s.heap.IsTuple a its.toArray from p) rv.ints fun h' tk t' hk => ⟨.int _, H, I.kept hk, ⟨_, rfl⟩, q⟩
theorem cr_sumA (hc : X.calm = true) : CallR X (.builtin "sum") (rSumA X.K) := (cr_sum hc).or (cr_sumT hc)
theorem cr_len : CallR X (.builtin "len") (rLen X.K) := call_len_seq
/-- a module's int -/
theorem pe_const {x : Str} {n : Int} {pos : Pos} (hg : Gl X x) (hm : ∃ t, X.mg x = some (.int n t)) (hd : (x == ("__debug__" : Str)) = false := by decide) : PE X (.Name x pos) (tC (.int n)) := by
  obtain ⟨t, h⟩ := hm
  exact pe_glob hg h ⟨t, rfl⟩ hd
/-- a built-in class as a value -/
theorem pe_ty {x : Str} {n : String} {pos : Pos} (hg : Gl X x) (hm : X.mg x = none) (hv : bootBuiltins x = some (.type n)) (hn : x ≠ "__name__" := by decide) (hd : (x == ("__debug__" : Str)) = false := by decide) : PE X (.Name x pos) (tC (.ty n)) :=
  pe_bltn hg hm hv rfl hn hd
/-- list(x) -/
def rListA (K : PySem.W.Frag) : List V → Hp → VK → Prop := fun xs H Q => ∃ p ys, xs = [.ref p] ∧ (SqL K H p ys ∨ SqT K H p ys) ∧ ∀ l, H l = none → Q (.ref l) (upd H l (.lst ys))
theorem cr_list : CallR X (.type "list") (rListA X.K) := call_list_of
end
variable {c : Ct} {H H' H0 H1 H2 H3 : Hp} {O : List Addr} {σ : L2.St} {Γ Γ' Γ1 : List (Option Rs)}
variable {te ta tb tx tl : TE} {tt tu : TT} {tr : TA} {k ka kb kc : Kd} {d x y z : PyData} {i j : Int} {a b : Bool} {kv fz : Bool} {ds es : List PyData}
theorem e_sumT {ns : List Int} (h : Ev c te Γ k (.tuple (ns.map .int))) : Ev c (tCB (rSumA c.K) (tCons te tNil)) Γ .v (.int ns.sum) :=
  d_cb (a_cons h a_nil) fun H O vs Q s q => by
    obtain ⟨x, rfl, b⟩ := s.one
    obtain ⟨p, xs, rfl, s, al⟩ := b.tup'
    have := al.ints
    subst this
    exact .inr ⟨p, ns, rfl, s.sq, q _ H Rr.rf (.int _)⟩
theorem e_sumL {ns : List Int} (h : Ev c te Γ k (.list (ns.map .int))) : Ev c (tCB (rSumA c.K) (tCons te tNil)) Γ .v (.int ns.sum) :=
  d_cb (a_cons h a_nil) fun H O vs Q s q => by
    obtain ⟨x, rfl, b⟩ := s.one
    obtain ⟨p, xs, rfl, _, s, al⟩ := b.lst'
    have := al.ints
    subst this
    exact .inl ⟨p, ns, rfl, s, q _ H Rr.rf (.int _)⟩
/-- list(x) of flat things: a new list -/
theorem e_listL (h : Ev c te Γ k (.list ds)) (hf : flatAll ds = true) : Ev c (tCB (rListA c.K) (tCons te tNil)) Γ .o (.list ds) := fun H0 O H σ e Q q =>
  h H0 O H σ e _ fun v H1 r s => by
    obtain ⟨p, xs, rfl, _, sl, al⟩ := (Res.bo e s).lst'
    refine ⟨p, xs, rfl, .inl sl, fun l hl => ?_⟩
    have sm : Same H1 (upd H1 l (.lst xs)) := fun b u z => by rw [upd_ne (ne_of_none z hl)]; exact z
    exact q _ _ (r.tr (Rr.same sm)) ⟨[l], .lst upd_same (FoAll.leaves hf (al.same sm)), by simp, fun a ha => by
      cases List.mem_singleton.mp ha
      exact r.back e.jH hl⟩
theorem e_listT (h : Ev c te Γ k (.tuple ds)) (hf : flatAll ds = true) : Ev c (tCB (rListA c.K) (tCons te tNil)) Γ .o (.list ds) := fun H0 O H σ e Q q =>
  h H0 O H σ e _ fun v H1 r s => by
    obtain ⟨p, xs, rfl, sl, al⟩ := (Res.bo e s).tup'
    refine ⟨p, xs, rfl, .inr sl.sq, fun l hl => ?_⟩
    have sm : Same H1 (upd H1 l (.lst xs)) := fun b u z => by rw [upd_ne (ne_of_none z hl)]; exact z
    exact q _ _ (r.tr (Rr.same sm)) ⟨[l], .lst upd_same (FoAll.leaves hf (al.same sm)), by simp, fun a ha => by
      cases List.mem_singleton.mp ha
      exact r.back e.jH hl⟩
end Lm
namespace Lm
open PySem PySem.Spec PyProof.Rows L2
variable {c : Ct} {Γ : List (Option Rs)} {te : TE} {tt : TT} {fz : Bool} {α : Type} {wi : TI} {g : TG} {vs : List Nat} {l : List α} {en : α → Im}
theorem d_lcB (m : α → Bool) (hi : EvI c wi Γ fz (l.map en)) (hl : l.length ≤ 1000000)
    (hb : ∀ a ∈ l, ∃ Γ' js, EvG c g (en a) (wipeG Γ vs) Γ' js ∧ (∀ j ∈ js, j ∈ vs) ∧ ∃ k, Ev c te Γ' k (.bool (m a))) : Ev c (tLc wi g tYes te vs) Γ .o (.list ((l.map m).map .bool)) := by
  have := d_lcA (te := te) (g := g) (vs := vs) (fun a => PyData.bool (m a)) hi hl fun a ha => by
    obtain ⟨Γ', js, h1, h2, k, h3⟩ := hb a ha
    exact ⟨Γ', js, h1, h2, h3.fo rfl⟩
  rw [List.map_map]
  exact this
theorem d_lcI (m : α → Int) (hi : EvI c wi Γ fz (l.map en)) (hl : l.length ≤ 1000000)
    (hb : ∀ a ∈ l, ∃ Γ' js, EvG c g (en a) (wipeG Γ vs) Γ' js ∧ (∀ j ∈ js, j ∈ vs) ∧ ∃ k, Ev c te Γ' k (.int (m a))) : Ev c (tLc wi g tYes te vs) Γ .o (.list ((l.map m).map .int)) := by
  have := d_lcA (te := te) (g := g) (vs := vs) (fun a => PyData.int (m a)) hi hl fun a ha => by
    obtain ⟨Γ', js, h1, h2, k, h3⟩ := hb a ha
    exact ⟨Γ', js, h1, h2, h3.fo rfl⟩
  rw [List.map_map]
  exact this
theorem d_lcPI (p : α → Bool) (m : α → Int) (hi : EvI c wi Γ fz (l.map en)) (hl : l.length ≤ 1000000)
    (hb : ∀ a ∈ l, ∃ Γ' js, EvG c g (en a) (wipeG Γ vs) Γ' js ∧ (∀ j ∈ js, j ∈ vs) ∧ EvT c tt Γ' (p a) ∧ (p a = true → ∃ k, Ev c te Γ' k (.int (m a)))) : Ev c (tLc wi g tt te vs) Γ .o (.list (((l.filter p).map m).map .int)) := by
  have := d_lc (te := te) (tt := tt) (g := g) (vs := vs) p (fun a => PyData.int (m a)) hi hl fun a ha => by
    obtain ⟨Γ', js, h1, h2, h3, h4⟩ := hb a ha
    exact ⟨Γ', js, h1, h2, h3, fun q => let ⟨k, h⟩ := h4 q; h.fo rfl⟩
  rw [List.map_map]
  exact this
end Lm
namespace Lm
open PySem
theorem flatT (ns : List Int) : flatD (.tuple (ns.map .int)) = true := flatAll_ints ns
end Lm
namespace Lm
open PySem PySem.Spec PyProof.Rows L2
def pairI (p : Int × Nat) : Im := .t [.d (.int ((p.2 : Nat) : Int)), .d (.int p.1)]
theorem enumI_ints (ns : List Int) : enumI (ns.map .int) = ns.zipIdx.map pairI := by
  unfold enumI
  rw [List.zipIdx_map, List.map_map]
  rfl
theorem i_enumTI {c : Ct} {Γ : List (Option Rs)} {tr : TA} {ns : List Int} (h : EvA c tr Γ true [.tuple (ns.map .int)]) : EvI c (iEnumA c.K tr) Γ true (ns.zipIdx.map pairI) := enumI_ints ns ▸ i_enumT h
end Lm
namespace Lm
open PySem PySem.Spec PyProof.Rows L2
def imI (n : Int) : Im := .d (.int n)
theorem i_seqTI {c : Ct} {Γ : List (Option Rs)} {tl : TE} {k : Kd} {ns : List Int} (h : Ev c tl Γ k (.tuple (ns.map .int))) (hk : k ≠ .b) : EvI c (iSeq c.K tl) Γ true (ns.map imI) := by
  have := i_seqT h hk
  rwa [List.map_map] at this
theorem i_seqLI {c : Ct} {Γ : List (Option Rs)} {tl : TE} {k : Kd} {ns : List Int} (h : Ev c tl Γ k (.list (ns.map .int))) (hk : k ≠ .b) : EvI c (iSeq c.K tl) Γ true (ns.map imI) := by
  have := i_seqL h hk
  rwa [List.map_map] at this
theorem kv_ne : Kd.v ≠ Kd.b := fun h => nomatch h
theorem ko_ne : Kd.o ≠ Kd.b := fun h => nomatch h
end Lm

/-! the rules, the written part given by name (within a comprehension's block it may not be read off the context) -/
namespace Lm
open PySem PySem.Spec PyProof.Rows L2
section
variable {X : Cx} {K : PySem.W.Frag} (hK : X.K = K)
include hK
theorem k_add : OpR X (binaryOp .Add) (rAddA K) := hK ▸ op_addA
theorem k_eq (hu : X.A.units + 64 < cLine) : OpR X (compareOp .Eq) (rEqA K) := hK ▸ op_eqA hu
theorem k_ne (hu : X.A.units + 64 < cLine) : OpR X (compareOp .NotEq) (rNeA K) := hK ▸ op_neA hu
theorem k_in : OpR X (compareOp .In) (rIn K false) := hK ▸ op_in_seq
theorem k_notIn : OpR X (compareOp .NotIn) (rIn K true) := hK ▸ op_notIn_seq
theorem k_ix : IxR X (rIx K) := hK ▸ ix_seq
theorem k_slT : SlR X (rSlN K) := hK ▸ sl_tupN
theorem k_isi : CallR X (.builtin "isinstance") (rIsi K) := hK ▸ call_isi
theorem k_len : CallR X (.builtin "len") (rLen K) := hK ▸ cr_len
theorem k_all (hc : X.calm = true) : CallR X (.builtin "all") (rAll K) := hK ▸ cr_all hc
theorem k_any (hc : X.calm = true) : CallR X (.builtin "any") (rAny K) := hK ▸ cr_any hc
theorem k_sum (hc : X.calm = true) : CallR X (.builtin "sum") (rSumA K) := hK ▸ cr_sumA hc
theorem k_tuple : CallR X (.type "tuple") (rTuple K) := hK ▸ cr_tuple
theorem k_list : CallR X (.type "list") (rListA K) := hK ▸ cr_list
theorem k_maxD (hc : X.calm = true) : CallRK X (.builtin "max") [Str.ofString "default"] (rMaxDT K) := hK ▸ cr_maxD hc
theorem k_count : MtR X "tuple.count" (rCountT K) := hK ▸ mt_tcount
theorem k_seq {e tg : Expr} {tl : TE} (h : PE X e tl) : PI X tg e (iSeq K tl) := hK ▸ pi_seq h
theorem k_enum {e : Expr} {ta : TA} {p pos tpos : Pos} {elts : List Expr} {kk : Nat} (hg : Gl X "enumerate") (hm : X.mg "enumerate" = none) (ha : PA X [e] ta) (hs : starEach [e] X.env = [(false, eval e X.env)] := by rfl) :
    PI X (.Tuple elts kk tpos) (.Call (.Name "enumerate" p) [e] [] pos) (iEnumA K ta) := hK ▸ pi_enumA hg hm ha hs
theorem k_zip {e e2 : Expr} {ta : TA} {p pos tpos : Pos} {elts : List Expr} {kk : Nat} (hg : Gl X "zip") (hm : X.mg "zip" = none) (ha : PA X [e, e2] ta)
    (hs : starEach [e, e2] X.env = (false, eval e X.env) :: starEach [e2] X.env := by rfl) (hpl : (backTo pos (starEach [e2] X.env)).any (·.1) = false := by rfl) :
    PI X (.Tuple elts kk tpos) (.Call (.Name "zip" p) [e, e2] [] pos) (RZ.iZipA K ta) := hK ▸ RZ.pi_zipA hg hm ha hs hpl
theorem k_tup {es : List Expr} {k : Nat} {t : TGs} {n : Nat} {pos : Pos} (hc : X.calm = true) (h : PGs X es t)
    (hn : (assignEach es X.env).length = n := by rfl) (hst : (assignEach es X.env).findIdx? (·.1) = none := by rfl) : PG X (.Tuple es k pos) (gTup K n t) := hK ▸ pg_tup hc h hn hst
theorem k_tm {name : Str} {id : String} {r : V → List V → Hp → VK → Prop} {o e : Expr} {es : List Expr} {to : TE} {t : TA} {apos cpos : Pos} (slot : Slot "tuple" name id) (hty : typeOf (.builtin id) = pure (.type "method_descriptor")) (hm : MtR X id r) (ho : PE X o to) (ha : PA X (e :: es) t)
    (hbase : attributeBase o name X.env (eval o X.env) = eval o X.env := by rfl)
    (hfew : ((backTo cpos (starEach (e :: es) X.env)).all (fun x => !x.1) && (backToKw cpos (keywordEach [] X.env)).all (fun x => x.1.isSome) && decide ((e :: es).length + ([] : List Keyword).length + (if ([] : List Keyword).isEmpty then 0 else 1) < 30)) = true := by rfl)
    (hline : (apos.endLine == cpos.line) = true := by rfl) (hs : starEach (e :: es) X.env = (false, eval e X.env) :: starEach es X.env := by rfl) (hplain : (backTo cpos (starEach es X.env)).any (·.1) = false := by rfl) :
    PE X (.Call (.Attribute o name apos) (e :: es) [] cpos) (tTM K r to t) := hK ▸ pe_tm slot hty hm ho ha hbase hfew hline hs hplain
theorem k_bm {T : String} {name : Str} {id : String} {r : V → List V → Hp → VK → Prop} {o e : Expr} {es : List Expr} {to : TE} {t : TA} {apos cpos : Pos} (pa : PlainAttrs T) (slot : Slot T name id) (hty : typeOf (.builtin id) = pure (.type "method_descriptor")) (hm : MtR X id r) (ho : PE X o to) (ha : PA X (e :: es) t)
    (hbase : attributeBase o name X.env (eval o X.env) = eval o X.env := by rfl)
    (hfew : ((backTo cpos (starEach (e :: es) X.env)).all (fun x => !x.1) && (backToKw cpos (keywordEach [] X.env)).all (fun x => x.1.isSome) && decide ((e :: es).length + ([] : List Keyword).length + (if ([] : List Keyword).isEmpty then 0 else 1) < 30)) = true := by rfl)
    (hline : (apos.endLine == cpos.line) = true := by rfl) (hs : starEach (e :: es) X.env = (false, eval e X.env) :: starEach es X.env := by rfl) (hplain : (backTo cpos (starEach es X.env)).any (·.1) = false := by rfl) :
    PE X (.Call (.Attribute o name apos) (e :: es) [] cpos) (tBM K T r to t) := hK ▸ pe_bm pa slot hty hm ho ha hbase hfew hline hs hplain
end
end Lm

/-! the law's own start and end -/
namespace Lm
open PySem PySem.Spec PyProof.Rows L2
variable {c : Ct} {H H' H0 H1 H2 H3 : Hp} {O : List Addr} {σ : L2.St} {Γ Γ' Γ1 : List (Option Rs)}
variable {te ta tb tx tl : TE} {tt tu : TT} {tr : TA} {k ka kb kc : Kd} {d x y z : PyData} {i j : Int} {a b : Bool} {kv fz : Bool} {ds es : List PyData}
/-- law's: a list of at most 63 ints is handed in, True comes out -/
def spLaw (K : PySem.W.Frag) : Sp := fun vs H Q _ => ∃ (a : Addr) (ns : List Int), vs = [.ref a] ∧ SqL K H a (ns.map V.int) ∧ ns.length ≤ 63 ∧ ∀ H', Q (.bl true) H'
def spStream (K : PySem.W.Frag) : Sp := fun vs H Q _ => ∃ (a : Addr) (ns : List Int), vs = [.ref a] ∧ SqL K H a (ns.map V.int) ∧ ns.length ≤ 63 ∧ ∀ st l H', Same H H' → H st = none → Str1 K st l H' → Q (.ref st) H'
theorem run_law {K : PySem.W.Frag} {N : List Str} {t : TS} {vs : List V} {Q : VK} {E E' : XK} (hN : 2 ≤ N.length)
    (hs : ∀ st l, Sd (sc K st l) t (none :: some (.r (.ref st)) :: List.replicate (N.length - 2) none) (fun o => o = .rt .v (.bool true))) (h : spLaw K vs H Q E) :
    tSeq (tAsg (tCall (spStream K) [] E' (tCons (tVar 0) tNil)) (gName 1)) t { nx := fun _ H' => Q .non H', rt := Q } (start N vs) H := by
  obtain ⟨a, ns, rfl, hS, hl, hq⟩ := h
  have es : start N [.ref a] = some (.ref a) :: List.replicate (N.length - 1) none := rfl
  rw [es]
  refine ⟨.ref a, rfl, a, ns, rfl, hS, hl, fun st l H1 sm hst str => ?_⟩
  have j : Ji (sc K st l) H1 := fun st' l' e => by cases e; exact str
  refine hs st l H1 [] H1 _ _ ⟨Rr.same (by rw [mns_nil]; exact Same.refl _), by rw [mns_nil]; exact j, (fun _ h => nomatch h), (fun _ h => nomatch h), [], ?_, List.nodup_nil, (fun _ h => nomatch h)⟩ fun o po => ?_
  · have e2 : List.replicate (N.length - 1) (none : Option V) = none :: List.replicate (N.length - 2) none := by
      have : N.length - 1 = (N.length - 2) + 1 := by omega
      rw [this, List.replicate_succ]
    rw [e2]
    exact .cons (f := []) (fs := []) rfl (.cons (f := []) (fs := []) ⟨rfl, rfl⟩ (reps_none _))
  · subst po
    intro v H' _ rt
    have := rt.2.bl'
    subst this
    exact hq H'
/-! one of several answers -/
theorem n_bin {r : R2} {Pa Pb P : PyData → Prop} (ha : EvN c ta Γ ka Pa) (hb : EvN c tb Γ kb Pb)
    (hr : ∀ x y, Pa x → Pb y → ∃ z, P z ∧ ∀ H O v u (Q : VK), Bo c H v x → Bo c H u y → (∀ v' H2, Rr c H H2 → Bo c (mns H2 O) v' z → Q v' H2) → r v u H Q) : EvN c (tOp r ta tb) Γ .v P := fun H0 O H σ e Q q =>
  ha H0 O H σ e _ fun v x H1 px r1 s1 => hb H0 O H1 σ (e.on r1) _ fun u y H2 py r2 s2 => by
    obtain ⟨z, pz, hz⟩ := hr x y px py
    exact hz H2 O v u Q (Res.bo e (Res.on e r1 r2 s1)) (Res.bo (e.on r1) s2) fun v' H3 r3 b => q v' z H3 pz ((r1.tr r2).tr r3) b
/-- some int with Q -/
abbrev SomeI (Q : Int → Prop) : PyData → Prop := fun d => ∃ n : Int, d = .int n ∧ Q n
theorem n_add {Qa Qb Q : Int → Prop} (ha : EvN c ta Γ ka (SomeI Qa)) (hb : EvN c tb Γ kb (SomeI Qb)) (h : ∀ m n, Qa m → Qb n → Q (m + n)) : EvN c (tOp (rAddA c.K) ta tb) Γ .v (SomeI Q) :=
  n_bin ha hb fun x y ⟨m, hm, qm⟩ ⟨n, hn, qn⟩ => ⟨.int (m + n), ⟨_, rfl, h m n qm qn⟩, fun H O v u Q bv bu q => by
    subst hm; subst hn
    exact .inl ⟨m, n, bv.int', bu.int', q _ H Rr.rf (.int _)⟩⟩
theorem n_sub {Qa Qb Q : Int → Prop} (ha : EvN c ta Γ ka (SomeI Qa)) (hb : EvN c tb Γ kb (SomeI Qb)) (h : ∀ m n, Qa m → Qb n → Q (m - n)) : EvN c (tOp (rI0 fun i j => .int (i - j)) ta tb) Γ .v (SomeI Q) :=
  n_bin ha hb fun x y ⟨m, hm, qm⟩ ⟨n, hn, qn⟩ => ⟨.int (m - n), ⟨_, rfl, h m n qm qn⟩, fun H O v u Q bv bu q => by
    subst hm; subst hn
    exact ⟨m, n, bv.int', bu.int', q _ H Rr.rf (.int _)⟩⟩
theorem Ev.sm {Q : Int → Prop} (h : Ev c te Γ k (.int i)) (q : Q i) : EvN c te Γ k (SomeI Q) := h.n.imp fun d e => ⟨i, e, q⟩
/-- a comparison of drawn ints, as a test of either answer -/
theorem tn_cmp {r : R2} {Qa Qb : Int → Prop} (ha : EvN c ta Γ ka (SomeI Qa)) (hb : EvN c tb Γ kb (SomeI Qb))
    (hr : ∀ m n H (Q : VK), (∀ b, Q (.bl b) H) → r (.int m) (.int n) H Q) : EvTN c (tTest (tOp r ta tb)) Γ := fun H0 O H σ e Q q =>
  ha H0 O H σ e _ fun v x H1 ⟨m, hm, _⟩ r1 s1 => hb H0 O H1 σ (e.on r1) _ fun u y H2 ⟨n, hn, _⟩ r2 s2 => by
    subst hm; subst hn
    rw [(Res.bo e (Res.on e r1 r2 s1)).int', (Res.bo (e.on r1) s2).int']
    exact hr m n H2 _ fun b => ⟨b, rfl, q b H2 (r1.tr r2)⟩
theorem tn_eq {Qa Qb : Int → Prop} (ha : EvN c ta Γ ka (SomeI Qa)) (hb : EvN c tb Γ kb (SomeI Qb)) : EvTN c (tTest (tOp (rEqA c.K) ta tb)) Γ :=
  tn_cmp ha hb fun m n H Q q => .inl ⟨rfl, q _⟩
theorem tn_gt {Qa Qb : Int → Prop} (ha : EvN c ta Γ ka (SomeI Qa)) (hb : EvN c tb Γ kb (SomeI Qb)) : EvTN c (tTest (tOp (rI0 fun i j => .bl (decide (j < i))) ta tb)) Γ :=
  tn_cmp ha hb fun m n H Q q => ⟨m, n, rfl, rfl, q _⟩
end Lm

/-! what the defs promise -/
namespace Lm
open PySem PySem.Spec PyProof.Rows L2
/-- is an int from lo to hi -/
def isIntD : PyData → Int → Int → Bool
  | .int i, lo, hi => decide (lo ≤ i) && decide (i ≤ hi)
  | _, _, _ => false
def isIntTy : PyData → Bool
  | .int _ => true
  | .bool _ => true
  | _ => false
def isBoolTy : PyData → Bool
  | .bool _ => true
  | _ => false
theorem kit_int (x : PyData) : kitB (tyD x) "int" = some (isIntTy x) := by cases x <;> (simp only [tyD, isIntTy, isBoolTy]; decide +kernel)
theorem kit_bool (x : PyData) : kitB (tyD x) "bool" = some (isBoolTy x) := by cases x <;> (simp only [tyD, isIntTy, isBoolTy]; decide +kernel)
def sp_is_integer (K : PySem.W.Frag) : Sp := spD K fun ds k d => ∃ x lo hi, ds = [x, .int lo, .int hi] ∧ k = .v ∧ d = .bool (isIntD x lo hi)


def sp_require (K : PySem.W.Frag) : Sp := spD K fun ds k d => ∃ nm, ds = [.bool true, .str nm] ∧ k = .v ∧ d = .none
/-- a tuple of ints from lo to hi -/
def areInts : PyData → Int → Int → Bool
  | .tuple ds, lo, hi => ds.all fun d => isIntD d lo hi
  | _, _, _ => false
def isTupTy : PyData → Bool
  | .tuple _ => true
  | _ => false
theorem kit_tuple (x : PyData) : kitB (tyD x) "tuple" = some (isTupTy x) := by cases x <;> (simp only [tyD, isTupTy]; decide +kernel)
/-- tuples are not too long -/
def SmallT (x : PyData) : Prop := ∀ es, x = .tuple es → es.length ≤ 1000000
def sp_are_integers (K : PySem.W.Frag) : Sp := spD K fun ds k d => ∃ x lo hi, ds = [x, .int lo, .int hi] ∧ SmallT x ∧ k = .v ∧ d = .bool (areInts x lo hi)
theorem isInt_int {d : PyData} {lo hi : Int} (h : isIntD d lo hi = true) : ∃ n, d = .int n ∧ lo ≤ n ∧ n ≤ hi := by
  cases d with
  | int i =>
    simp only [isIntD, Bool.and_eq_true, decide_eq_true_eq] at h
    exact ⟨i, rfl, h.1, h.2⟩
  | _ => simp [isIntD] at h
theorem areInts_ints {x : PyData} {lo hi : Int} (h : areInts x lo hi = true) : ∃ ns : List Int, x = .tuple (ns.map .int) ∧ ∀ n ∈ ns, lo ≤ n ∧ n ≤ hi := by
  cases x with
  | tuple ds =>
    have h' : (ds.all fun d => isIntD d lo hi) = true := h
    clear h
    induction ds with
    | nil => exact ⟨[], rfl, fun _ h => nomatch h⟩
    | cons d ds ih =>
      rw [List.all_cons, Bool.and_eq_true] at h'
      obtain ⟨n, rfl, h1, h2⟩ := isInt_int h'.1
      obtain ⟨ns, e, h3⟩ := ih h'.2
      refine ⟨n :: ns, by rw [PyData.tuple.inj e]; rfl, fun m hm => ?_⟩
      rcases List.mem_cons.mp hm with q | q
      · rw [q]; exact ⟨h1, h2⟩
      · exact h3 m q
  | _ => simp [areInts] at h
theorem areInts_of {ns : List Int} {lo hi : Int} (h : ∀ n ∈ ns, lo ≤ n ∧ n ≤ hi) : areInts (.tuple (ns.map .int)) lo hi = true := by
  show ((ns.map PyData.int).all fun d => isIntD d lo hi) = true
  rw [List.all_map, List.all_eq_true]
  intro n hn
  have := h n hn
  simp [isIntD, this.1, this.2]


def lenT : PyData → Nat
  | .tuple ds => ds.length
  | _ => 0
def intD : PyData → Int
  | .int i => i
  | _ => 0
def sumT : PyData → Int
  | .tuple ds => (ds.map intD).sum
  | _ => 0
theorem lenT_ints (ns : List Int) : lenT (.tuple (ns.map .int)) = ns.length := by simp [lenT]
theorem sumT_ints (ns : List Int) : sumT (.tuple (ns.map .int)) = ns.sum := by
  have : (intD ∘ PyData.int) = id := rfl
  simp [sumT, this]
def isAlloc (x : PyData) (n b : Int) : Bool := areInts x 0 b && (decide ((lenT x : Int) = n) && decide (sumT x = b))
def sp_is_allocation (K : PySem.W.Frag) : Sp := spD K fun ds k d => ∃ x n b, ds = [x, .int n, .int b] ∧ SmallT x ∧ k = .v ∧ d = .bool (isAlloc x n b)
def isBAsg (x : PyData) (v : Int) : Bool := areInts x 0 (v - 1) && decide ((lenT x : Int) ≤ 20)
def sp_is_bounded_assignment (K : PySem.W.Frag) : Sp := spD K fun ds k d => ∃ x v, ds = [x, .int v] ∧ SmallT x ∧ k = .v ∧ d = .bool (isBAsg x v)
def sp_check_assignment (K : PySem.W.Frag) : Sp := spD K fun ds k d => ∃ x nm, ds = [x, .str nm] ∧ SmallT x ∧ isBAsg x 5 = true ∧ k = .v ∧ d = .none
def sp_check_enough (K : PySem.W.Frag) : Sp := spD K fun ds k d => ∃ (v : Int) (ns : List Int), ds = [.int v, .tuple (ns.map .int)] ∧ mxD 0 ns + 1 ≤ v ∧ v ≤ 5 ∧ k = .v ∧ d = .none


/-- how often each variant occurs -/
def countsI (ns : List Int) (v : Int) : List Int := (upI 0 v.toNat).map fun i => (ns.count i : Int)
/-- the places of a variant -/
def placesI (ns : List Int) (v : Int) : List Int := (ns.zipIdx.filter fun p => decide (p.1 = v)).map fun p => ((p.2 : Nat) : Int)
theorem mxOf_le : ∀ (ns : List Int) (m b : Int), m ≤ b → (∀ n ∈ ns, n ≤ b) → mxOf m ns ≤ b
  | [], m, b, h, _ => h
  | n :: ns, m, b, h, g => by
    show mxOf (if n > m then n else m) ns ≤ b
    refine mxOf_le ns _ b ?_ fun x hx => g x (by simp [hx])
    split
    · exact g n (by simp)
    · exact h
theorem mxD_le {ns : List Int} {b : Int} (h0 : 0 ≤ b) (h : ∀ n ∈ ns, n ≤ b) : mxD 0 ns ≤ b := by
  cases ns with
  | nil => exact h0
  | cons n ns => exact mxOf_le ns n b (h n (by simp)) fun x hx => h x (by simp [hx])
/-- an assignment of at most 20 buckets to v variants -/
structure Asg (ns : List Int) (v : Int) : Prop where
  len : ns.length ≤ 20
  rng : ∀ n ∈ ns, 0 ≤ n ∧ n < v
theorem Asg.bAsg {ns : List Int} {v w : Int} (h : Asg ns v) (hw : v ≤ w) : isBAsg (.tuple (ns.map .int)) w = true := by
  unfold isBAsg
  rw [areInts_of fun n hn => ⟨(h.rng n hn).1, by have := (h.rng n hn).2; omega⟩, lenT_ints]
  have := h.len
  simp
  omega
theorem small_ints {ns : List Int} (h : ns.length ≤ 1000000) : SmallT (.tuple (ns.map .int)) := fun es e => by
  rw [← PyData.tuple.inj e]
  simpa using h
theorem Asg.small {ns : List Int} {v : Int} (h : Asg ns v) : SmallT (.tuple (ns.map .int)) := small_ints (by have := h.len; omega)
def sp_allocation_of (K : PySem.W.Frag) : Sp := spD K fun ds k d => ∃ (ns : List Int) (v : Int), ds = [.tuple (ns.map .int), .int v] ∧ Asg ns v ∧ 1 ≤ v ∧ v ≤ 5 ∧ k = .v ∧ d = .tuple ((countsI ns v).map .int)
def sp_buckets_of (K : PySem.W.Frag) : Sp := spD K fun ds k d => ∃ (ns : List Int) (v : Int), ds = [.tuple (ns.map .int), .int v] ∧ Asg ns 5 ∧ 0 ≤ v ∧ v ≤ 4 ∧ k = .o ∧ d = .list ((placesI ns v).map .int)


def sp__law_next (K : PySem.W.Frag) : Sp := spS K fun ds k P => ∃ m : Int, ds = [.int m] ∧ 0 < m ∧ m < 1073741824 ∧ k = .v ∧ P = fun d => ∃ n : Int, d = .int n ∧ 0 ≤ n ∧ n < m
theorem Str1.put {K : PySem.W.Frag} {st l : Addr} {H : Hp} {ns : List Int} {x k : Int} (h2 : H l = some (.lst (ns.map V.int))) (h3 : l ≠ st) (h4 : 0 ≤ k) : Str1 K st l (upd H st (.lst [.ref l, .int x, .int k])) :=
  ⟨ns, x, k, upd_same, by rw [upd_ne h3]; exact h2, h3, h4⟩


/-! the law's helpers -/

def sp__law_stream := spStream
def isIntNB : PyData → Bool
  | .int _ => true
  | _ => false
def sp__law_is_integer (K : PySem.W.Frag) : Sp := spD K fun ds k d => ∃ x, ds = [x] ∧ k = .v ∧ d = .bool (isIntNB x)
/-- data that _law_equal may look at, to some depth -/
inductive EqOk : Nat → PyData → Prop
  | non {n} : EqOk n .none
  | bl {n} (b : Bool) : EqOk n (.bool b)
  | int {n} (i : Int) : EqOk n (.int i)
  | str {n} (s : Str) : EqOk n (.str s)
  | lst {n} {xs : List PyData} : xs.length ≤ 1000000 → (∀ x ∈ xs, EqOk n x) → EqOk (n + 1) (.list xs)
  | tup {n} {xs : List PyData} : xs.length ≤ 1000000 → (∀ x ∈ xs, EqOk n x) → EqOk (n + 1) (.tuple xs)
def spEq (K : PySem.W.Frag) : Nat → Sp
  | 0 => fun _ _ _ _ => False
  | n + 1 => spD K fun ds k d => ∃ x, ds = [x, x] ∧ EqOk n x ∧ k = .v ∧ d = .bool true
def sp__law_equal (K : PySem.W.Frag) : Sp := spEq K 8
theorem EqOk.ints {n : Nat} {ns : List Int} (h : ns.length ≤ 1000000) : EqOk (n + 1) (.tuple (ns.map .int)) := .tup (by simpa using h) fun x hx => by
  obtain ⟨i, _, rfl⟩ := List.mem_map.mp hx
  exact .int i
theorem EqOk.intsL {n : Nat} {ns : List Int} (h : ns.length ≤ 1000000) : EqOk (n + 1) (.list (ns.map .int)) := .lst (by simpa using h) fun x hx => by
  obtain ⟨i, _, rfl⟩ := List.mem_map.mp hx
  exact .int i
theorem EqOk.up {n : Nat} {x : PyData} (h : EqOk n x) : ∀ {m : Nat}, n ≤ m → EqOk m x := by
  induction h with
  | non => intro m _; exact .non
  | bl b => intro m _; exact .bl b
  | int i => intro m _; exact .int i
  | str s => intro m _; exact .str s
  | lst hl _ ih =>
    intro m hm
    cases m with
    | zero => omega
    | succ m => exact .lst hl fun x hx => ih x hx (by omega)
  | tup hl _ ih =>
    intro m hm
    cases m with
    | zero => omega
    | succ m => exact .tup hl fun x hx => ih x hx (by omega)


def sp__law_assignment (K : PySem.W.Frag) : Sp := spS K fun ds k P => ∃ v b : Int, ds = [.int v, .int b] ∧ 1 ≤ v ∧ v ≤ 1000 ∧ 0 ≤ b ∧ b ≤ 1000 ∧ k = .v ∧ P = fun d => ∃ ns : List Int, d = .tuple (ns.map .int) ∧ (ns.length : Int) = b ∧ ∀ n ∈ ns, 0 ≤ n ∧ n < v
def sp__law_counts (K : PySem.W.Frag) : Sp := spD K fun ds k d => ∃ (ns : List Int) (v : Int), ds = [.tuple (ns.map .int), .int v] ∧ ns.length ≤ 1000 ∧ 0 ≤ v ∧ v ≤ 1000 ∧ k = .v ∧ d = .tuple ((countsI ns v).map .int)
theorem n_draws {c : Ct} {Γ : List (Option Rs)} {te : TE} {fz : Bool} {wi : TI} {g : TG} {vs : List Nat} {items : List Im} (Q : Int → Prop) (hi : EvI c wi Γ fz items) (hl : items.length ≤ 1000000)
    (hb : ∀ a ∈ items, ∃ Γ' js, EvG c g a (wipeG Γ vs) Γ' js ∧ (∀ j ∈ js, j ∈ vs) ∧ ∃ k, EvN c te Γ' k (fun d => ∃ n : Int, d = .int n ∧ Q n)) :
    EvN c (tLc wi g tYes te vs) Γ .o (fun d => ∃ acc, d = .list acc ∧ ∃ ns : List Int, acc = ns.map .int ∧ ns.length = items.length ∧ ∀ n ∈ ns, Q n) := by
  refine n_lc (fun m acc => ∃ ns : List Int, acc = ns.map .int ∧ ns.length = m ∧ ∀ n ∈ ns, Q n) hi hl ⟨[], rfl, rfl, fun _ h => nomatch h⟩ fun m a acc ha hM => ?_
  obtain ⟨Γ', js, h1, h2, k, h3⟩ := hb a (List.mem_of_getElem? ha)
  obtain ⟨ns, rfl, hn, hq⟩ := hM
  refine ⟨Γ', js, h1, h2, true, fun d => ∃ n : Int, d = .int n ∧ Q n, t_yes, fun _ => ⟨h3.fo (by rintro d ⟨n, rfl, _⟩; rfl), ?_⟩, fun e => nomatch e⟩
  rintro d ⟨n, rfl, q⟩
  refine ⟨ns ++ [n], by simp, by simp [hn], fun x hx => ?_⟩
  rcases List.mem_append.mp hx with w | w
  · exact hq x w
  · rw [List.mem_singleton.mp w]; exact q

theorem upI0 (v : Nat) : upI 0 v = (List.range v).map fun (i : Nat) => (i : Int) := by
  unfold upI
  apply List.map_congr_left
  intro i _
  omega
theorem upI_count {v : Nat} {n : Int} (h0 : 0 ≤ n) (h1 : n < v) : (upI 0 v).count n = 1 := by
  obtain ⟨m, rfl⟩ := Int.eq_ofNat_of_zero_le h0
  have hm : m < v := by omega
  rw [upI0, List.count_eq_countP, List.countP_map]
  have e : ((fun x : Int => x == (m : Int)) ∘ fun (i : Nat) => (i : Int)) = fun i : Nat => i == m := by
    funext i
    show ((i : Int) == (m : Int)) = (i == m)
    rw [Bool.eq_iff_iff]
    simp
    omega
  rw [e]
  have : List.countP (fun i => i == m) (List.range v) = (List.range v).count m := rfl
  rw [this, List.nodup_range.count]
  simp [hm]
theorem count_sum (v : Nat) : ∀ ns : List Int, (∀ n ∈ ns, 0 ≤ n ∧ n < (v : Int)) → ((upI 0 v).map fun i => (ns.count i : Int)).sum = ns.length := by
  intro ns
  induction ns with
  | nil =>
    intro _
    generalize upI 0 v = l
    induction l with
    | nil => rfl
    | cons a l ih =>
      rw [List.map_cons, List.sum_cons, ih]
      rfl
  | cons n ns ih =>
    intro hv
    have ih' := ih fun m hm => hv m (by simp [hm])
    have hn := hv n (by simp)
    have key : ∀ l : List Int, (l.map fun i => ((n :: ns).count i : Int)).sum = (l.map fun i => (ns.count i : Int)).sum + l.count n := by
      intro l
      induction l with
      | nil => rfl
      | cons a l ihl =>
        rw [List.map_cons, List.sum_cons, List.map_cons, List.sum_cons, ihl, List.count_cons, List.count_cons]
        by_cases h : n = a
        · subst h
          rw [beq_self_eq_true, if_pos rfl]
          omega
        · rw [beq_eq_false_iff_ne.mpr h, beq_eq_false_iff_ne.mpr (fun e => h e.symm)]
          simp
          omega
    rw [key, ih', upI_count hn.1 hn.2]
    simp
theorem zipIdx_places (ns : List Int) (v : Int) : ((ns.zipIdx.filter fun p => decide (p.1 = v)).map fun p => ((p.2 : Nat) : Int)) = ((upI 0 ns.length).filter fun i => decide (ns.getD i.toNat 0 = v)) := by
  rw [upI0, List.filter_map]
  have e : ns.zipIdx = (List.range ns.length).map fun i => (ns.getD i 0, i) := by
    apply List.ext_getElem
    · simp
    · intro i h1 h2
      simp at h1 h2 ⊢
      rw [List.getElem?_eq_getElem h1]; rfl
  rw [e, List.filter_map, List.map_map]
  congr 1


theorem upI_get {lo : Int} {n m : Nat} {a : Im} (h : ((upI lo n).map fun i => Im.d (.int i))[m]? = some a) : ∃ i : Int, a = .d (.int i) ∧ lo ≤ i ∧ i < lo + n := by
  unfold upI at h
  rw [List.map_map, List.getElem?_map] at h
  cases q : (List.range n)[m]? with
  | none => rw [q] at h; cases h
  | some j =>
    rw [q] at h
    have hj : j < n := List.mem_range.mp (List.mem_of_getElem? q)
    exact ⟨lo + j, (Option.some.inj h).symm, by omega, by omega⟩
theorem isAlloc_counts {ns : List Int} {v w : Int} (h : Asg ns v) (hv : 0 ≤ v) (hw : v ≤ w) : isAlloc (.tuple ((countsI ns w).map .int)) w ns.length = true := by
  unfold isAlloc
  rw [areInts_of, lenT_ints, sumT_ints]
  · unfold countsI
    rw [count_sum]
    · have h1 : (((upI 0 w.toNat).map fun i => (ns.count i : Int)).length : Int) = w := by simp [upI]; omega
      rw [h1]
      simp
    · intro n hn
      have := h.rng n hn
      omega
  · intro n hn
    obtain ⟨i, _, rfl⟩ := List.mem_map.mp hn
    have := List.count_le_length (a := i) (l := ns)
    omega


def isListTy : PyData → Bool
  | .list _ => true
  | _ => false
def isStrTy : PyData → Bool
  | .str _ => true
  | _ => false
theorem kit_list (x : PyData) : kitB (tyD x) "list" = some (isListTy x) := by cases x <;> (simp only [tyD, isListTy]; decide +kernel)
theorem kit_str (x : PyData) : kitB (tyD x) "str" = some (isStrTy x) := by cases x <;> (simp only [tyD, isStrTy]; decide +kernel)
theorem atI_i {ds : List PyData} {i : Nat} {d : PyData} (h : ds[i]? = some d) : atI ds ((0 : Int) + (i : Int)) = some d := by rw [Int.zero_add]; exact atI_nat h

end Lm

/-! more rules: a list unpacked, tuple.index of an int, the number of a tuple's different ints, list.pop(i) -/
namespace Lm
open PySem PySem.Spec PyProof.Rows L2
section
variable {prog : Program} {w : World} {A : Around} {E : Value → Shared → Prop} {s : Shared}
theorem drawL {it t : Addr} {items : Array Value} (hne : t ≠ it) : ∀ (n i : Nat) (s : Shared) (Q : List Value → Shared → Prop), s.heap.IsListIter it t i → s.heap.IsList t items → i + n ≤ items.size →
    (∀ h', h'.IsListIter it t (i + n) → Heap.SameBut it s.heap h' → Q ((items.toList.drop i).take n) { s with heap := h' }) → wpAny (model prog w) A (draw (.ref it) n) Q E s
  | 0, i, s, Q, hit, _, _, hQ => by
    show wpAny _ _ (pure []) Q E s
    exact wpAny_pure (by simpa using hQ s.heap hit (Heap.SameBut.refl ..))
  | n + 1, i, s, Q, hit, ht, hle, hQ => by
    have hlt : i < items.size := by omega
    show wpAny _ _ (pyNext (.ref it) >>= _) Q E s
    refine wpAny_bind (wpAny_pyNext_list_item hit ht (x := items[i]) (by simp [hlt]) fun h₁ hit₁ hs₁ => ?_)
    refine wpAny_bind (wpAny_holding (drawL hne n (i + 1) _ _ hit₁ (ht.extBut hs₁.extBut hne) (by omega) fun h₂ hit₂ hs₂ => wpAny_pure ?_))
    have e1 : items.toList.drop i = items[i] :: items.toList.drop (i + 1) := by simp [List.drop_eq_getElem_cons, hlt]
    have e2 := hQ h₂ (by rw [show i + (n + 1) = i + 1 + n by omega]; exact hit₂) (hs₁.trans hs₂)
    rw [e1, List.take_succ_cons] at e2
    exact e2
theorem unpackL {t : Addr} {items : Array Value} {Q : List Value → Shared → Prop} (hh : A.handled = none) (ht : s.heap.IsList t items)
    (hQ : ∀ h', Heap.ExtBut s.heap.objs.size s.heap h' → Q items.toList { s with heap := h' }) : wpAny (model prog w) A (unpackItems (.ref t) items.size none) Q E s := by
  have hlt : t ≠ s.heap.objs.size := by obtain ⟨o, ho, _⟩ := ht; exact Nat.ne_of_lt (Heap.lt_size ho)
  unfold unpackItems
  refine wpAny_bind ?_
  · unfold notIterableAtAll
    refine wpAny_bind (wpAny_specialOf ht.typeIs F.slot_list_iter.lookup ?_)
    refine wpAny_pure ?_
    simp only [Bool.false_eq_true, if_false]
    refine wpAny_bind (wpAny_holding (wpAny_pyIter_list ht ?_))
    refine wpAny_bind (wpAny_holding (drawL hlt items.size 0 _ _ ⟨_, Heap.get?_push_size _ rfl, rfl, rfl⟩ (ht.push _) (by omega) fun h₁ hit₁ hs₁ => ?_))
    have e1 : List.take items.size (List.drop 0 items.toList) = items.toList := by
      rw [List.drop_zero]; exact List.take_of_length_le (by simp)
    rw [e1, if_neg (by simp)]
    have ht₁ : h₁.IsList t items := (ht.push _).extBut hs₁.extBut hlt
    refine wpAny_bind (wpAny_holding (wpAny_pyNext_list_end hh hit₁ ht₁ (by simp) fun h₂ he₂ => ?_))
    simp only [Option.isSome_none, Bool.false_eq_true, if_false]
    exact wpAny_pure (hQ h₂ fun b o hb e => he₂ b o hb (hs₁.extBut b o hb (Heap.get?_push_of_some _ e)))
theorem assignTupL {env : PySem.Env} {elts : List Expr} {x1} {pos : Pos} {t : Addr} {items : Array Value} {Q : Unit → Shared → Prop} (hh : A.handled = none) (ht : s.heap.IsList t items)
    (hn : (assignEach elts env).length = items.size) (hstar : (assignEach elts env).findIdx? (·.1) = none)
    (h : ∀ h', Heap.ExtBut s.heap.objs.size s.heap h' → wpAny (model prog w) A (assignInOrder ((assignEach elts env).map (·.2)) items.toList) Q E { s with heap := h' }) :
    wpAny (model prog w) A (assign (.Tuple elts x1 pos) env (.ref t)) Q E s := by
  rw [arm_assign_Tuple]
  refine wpAny_bind (wpAny_standAt ?_)
  unfold unpack
  rw [hn, hstar]
  exact wpAny_bind (wpAny_holding (unpackL hh ht h))
end
/-- (a, b, ..) = a tuple or a list of that length -/
def gTupA (K : PySem.W.Frag) (n : Nat) (t : TGs) : TG := fun v σ H Q => ∃ a xs, v = .ref a ∧ (SqT K H a xs ∨ SqL K H a xs) ∧ xs.length = n ∧ t xs σ H Q
section
variable {X : Cx}
theorem pg_tupA {es : List Expr} {k : Nat} {t : TGs} {n : Nat} {pos : Pos} (hc : X.calm = true) (h : PGs X es t)
    (hn : (assignEach es X.env).length = n := by rfl) (hst : (assignEach es X.env).findIdx? (·.1) = none := by rfl) : PG X (.Tuple es k pos) (gTupA X.K n t) := by
  refine ⟨fun pins s σ H v u Q I r hw => ?_⟩
  obtain ⟨a, xs, e1, hq, hl, hw⟩ := hw
  rcases hq with hq | hq
  · exact (pg_tup hc h hn hst).run pins s σ H v u Q I r ⟨a, xs, e1, hq, hl, hw⟩
  · subst e1
    cases r
    obtain ⟨its, rv, ht, hz⟩ := I.list hq
    refine assignTupL (I.ok.hd hc) ht.isList (by simp [hn, ← hl, rv.length]) hst fun h' hx => ?_
    have I1 : Inv X pins σ H { s with heap := h' } := I.kept (t' := s.toks) fun b o e => hx b o (Nat.ne_of_lt (Heap.lt_size e)) e
    exact h.run pins _ σ H xs _ Q I1 (by simpa using rv) hw
/-- the place of an int in a tuple of ints -/
def rIndexT (K : PySem.W.Frag) : V → List V → Hp → VK → Prop := fun x xs H Q => ∃ (p : Addr) (ns : List Int) (k : Int) (j : Nat), x = .ref p ∧ xs = [.int k] ∧ SqT K H p (ns.map V.int) ∧ ns[j]? = some k ∧ (∀ m, m < j → ns[m]? ≠ some k) ∧ Q (.int (j : Nat)) H
theorem mt_tindex : MtR X "tuple.index" (rIndexT X.K) := by
  intro pins s σ H x xs v us Q I rx rs h
  obtain ⟨p, ns, k, j, rfl, rfl, hq, hy, hno, q⟩ := h
  cases rx
  obtain ⟨u, rfl, ru⟩ := rs.one
  obtain ⟨t, rfl⟩ := ru
  obtain ⟨its, rv, ⟨⟨cls, dd, data, sl⟩, ho, hc, n, hd⟩, hlen⟩ := I.tuple hq
  simp only at hc hd
  subst hc hd
  have hi := ints_of_vals rv
  have hl : its.toArray.size = ns.length := by rw [List.size_toArray, ← rv.length, List.length_map]
  have at' : ∀ (m : Nat) (hm : m < its.toArray.size), ∃ t', its.toArray[m] = Value.int (ns.getD m 0) t' := fun m hm => by
    have hm' : m < ns.length := by rw [← hl]; exact hm
    obtain ⟨w, hw, t', hw'⟩ := rv.get (i := m) (x := .int ns[m]) (by simp [hm'])
    refine ⟨t', ?_⟩
    have e := (List.getElem?_eq_some_iff.mp hw).2
    have e2 : ns.getD m 0 = ns[m] := by rw [List.getD_eq_getElem?_getD, List.getElem?_eq_getElem hm']; rfl
    rw [e2, ← hw', ← e]
    simp
  obtain ⟨hjn, hje⟩ := List.getElem?_eq_some_iff.mp hy
  have hj : j < its.toArray.size := by rw [hl]; exact hjn
  have gd : ∀ m, m < ns.length → ns[m]? = some (ns.getD m 0) := fun m hm => by rw [List.getD_eq_getElem?_getD, List.getElem?_eq_getElem hm]; rfl
  refine call_meets PySem.F.slot_tuple_index ⟨_, ho, rfl⟩ PySem.F.entry_tuple_index (PySem.F.args_tuple_index_2 _ _)
    (TI.tuple_indexAt p its.toArray n dd sl (.int k t) (eqk k) j hj ?_ ?_) ⟨ho, fun y hy => (eqk_gives hi y (by simpa using hy)).at _ _, .int (j : Nat), H, I.tok _, ⟨_, rfl⟩, q⟩
  · obtain ⟨t', e⟩ := at' j hj
    have e2 : ns.getD j 0 = k := Option.some.inj ((gd j hjn).symm.trans hy)
    rw [e, e2]
    simp [eqk]
  · intro m hm hmj
    obtain ⟨t', e⟩ := at' m hm
    have hm' : m < ns.length := by rw [← hl]; exact hm
    have e2 : ns.getD m 0 ≠ k := fun z => hno m hmj (by rw [gd m hm', z])
    rw [e]
    show (ns.getD m 0 == k) = false
    exact beq_eq_false_iff_ne.mpr e2
/-- how many different ints a tuple has -/
def tLenSetT (K : PySem.W.Frag) (ta : TE) : TE := fun σ H Q => ta σ H fun x H1 => ∃ (l : Addr) (ns ks : List Int), x = .ref l ∧ SqT K H1 l (ns.map V.int) ∧ ns.length ≤ 4000 ∧ ks.Nodup ∧ (∀ k, k ∈ ks ↔ k ∈ ns) ∧ Q (.int (ks.length : Nat)) H1
theorem length_sub : ∀ {as bs : List Int}, as.Nodup → (∀ k, k ∈ as → k ∈ bs) → as.length ≤ bs.length
  | [], _, _, _ => Nat.zero_le _
  | a :: as, bs, ha, h => by
    have hm : a ∈ bs := h a (by simp)
    obtain ⟨hna, hnd⟩ := List.nodup_cons.mp ha
    have := length_sub (bs := bs.erase a) hnd fun k q => (List.mem_erase_of_ne fun (z : k = a) => hna (by rw [← z]; exact q)).mpr (h k (by simp [q]))
    rw [List.length_erase_of_mem hm] at this
    have : 0 < bs.length := List.length_pos_of_mem hm
    simp only [List.length_cons]
    omega
theorem same_length {as bs : List Int} (ha : as.Nodup) (hb : bs.Nodup) (h : ∀ k, k ∈ as ↔ k ∈ bs) : as.length = bs.length :=
  Nat.le_antisymm (length_sub ha fun k q => (h k).mp q) (length_sub hb fun k q => (h k).mpr q)
theorem pe_lenSetT {a : Expr} {ta : TE} {p p2 q pos : Pos} (hg : Gl X "len") (hm : X.mg "len" = none) (hg2 : Gl X "set") (hm2 : X.mg "set" = none) (ha : PE X a ta) (hc : X.calm = true := by rfl)
    (na : starEach [a] X.env = (false, eval a X.env) :: starEach [] X.env := by rfl) : PE X (.Call (.Name "len" p) [.Call (.Name "set" p2) [a] [] q] [] pos) (tLenSetT X.K ta) := by
  refine ⟨fun pins s σ H Q I h => ?_⟩
  refine Call_ (ld_blt I hg hm boot_len (PyProof.Rows.callWith_builtin1 (PyProof.Rows.args_cons ?_ rfl) rfl rfl))
  refine Call_ (ld_blt I hg2 hm2 boot_set ?_)
  refine PyProof.Rows.callWith_type1 (PyProof.Rows.args_cons (thn (ha.run pins s σ H _ I h) fun v s1 ⟨x, H1, I1, r1, q1⟩ => PyProof.Rows.args_nil ?_) na) na rfl
  obtain ⟨l, ns, ks, rfl, hq, hl, hnd, hks, q1⟩ := q1
  cases r1
  obtain ⟨its, r, pl, hz⟩ := I1.tuple hq
  refine call_set_tupI ns (I1.ok.hd hc) (show s1.heap.IsTuple l its.toArray from pl) (by simpa using ints_of_vals r) (by unfold scanBound; omega) fun h' tk c hS hc' hk => ?_
  refine PyProof.Rows.args_nil ?_
  obtain ⟨o, es, ep, t, ho, hex, hd, _, hn, hmem, _, hf, hsz, _⟩ := hS
  have I2 : Inv X pins σ H1 { s1 with heap := h', toks := tk } := I1.kept fun b o e => hk b o e
  have ec : es.size = ks.length := by
    rw [← Array.length_toList, ← List.length_map (f := keyOf)]
    refine same_length hn hnd fun k => ?_
    rw [← hmem k, hks k]
    simp
  have hle : ks.length ≤ 4000 := by omega
  exact call_len_set ho hex hd hf (by omega) ⟨.int (ks.length : Nat), H1, I2.tok _, ⟨_, by rw [ec]⟩, q1⟩
end
section
variable {X : Cx} {K : PySem.W.Frag} (hK : X.K = K)
include hK
theorem k_tupA {es : List Expr} {k : Nat} {t : TGs} {n : Nat} {pos : Pos} (hc : X.calm = true) (h : PGs X es t)
    (hn : (assignEach es X.env).length = n := by rfl) (hst : (assignEach es X.env).findIdx? (·.1) = none := by rfl) : PG X (.Tuple es k pos) (gTupA K n t) := hK ▸ pg_tupA hc h hn hst
theorem k_index : MtR X "tuple.index" (rIndexT K) := hK ▸ mt_tindex
theorem k_lenSet {a : Expr} {ta : TE} {p p2 q pos : Pos} (hg : Gl X "len") (hm : X.mg "len" = none) (hg2 : Gl X "set") (hm2 : X.mg "set" = none) (ha : PE X a ta) (hc : X.calm = true := by rfl)
    (na : starEach [a] X.env = (false, eval a X.env) :: starEach [] X.env := by rfl) : PE X (.Call (.Name "len" p) [.Call (.Name "set" p2) [a] [] q] [] pos) (tLenSetT K ta) := hK ▸ pe_lenSetT hg hm hg2 hm2 ha hc na
end
end Lm

namespace Lm
open PySem PySem.Spec PyProof.Rows L2
variable {c : Ct} {H H' H0 H1 H2 H3 : Hp} {O : List Addr} {σ : L2.St} {Γ Γ' Γ1 : List (Option Rs)}
variable {te ta tb tx tl : TE} {tt tu : TT} {tr : TA} {k ka kb kc : Kd} {d x y z : PyData} {i j : Int} {a b : Bool} {kv fz : Bool} {ds es : List PyData}
/-! ### zip of two tuples -/
def zipD (ds es : List PyData) : List Im := (ds.zip es).map fun p => .t [.d p.1, .d p.2]
theorem walk_zipT {K : PySem.W.Frag} {p q : Addr} {xs ys : List V} {n : Nat} (hn : n = min xs.length ys.length) : Walk (RZ.ItzT K p q) n (fun H => SqT K H p xs ∧ SqT K H q ys) (YPair (fun i => xs[i]?) (fun i => ys[i]?)) where
  goes := fun i _ hi w => ⟨xs, ys, xs[i]'(by omega), ys[i]'(by omega), w.1, w.2, List.getElem?_eq_getElem (by omega), List.getElem?_eq_getElem (by omega)⟩
  stops := fun _ w => ⟨xs, ys, w.1, w.2, by omega⟩
  yields := fun i H v H' _ w ⟨T, x, z, h1, h2, h3, h4, h5⟩ => ⟨T, x, z, h1, h2, h3, h4 xs w.1, h5 ys w.2⟩
theorem i_zipT (h : EvA c tr Γ true [.tuple ds, .tuple es]) : EvI c (RZ.iZipA c.K tr) Γ true (zipD ds es) := fun H0 O H σ e R q =>
  h H0 O H σ e _ fun vs H1 r s => by
    obtain ⟨x, y, rfl, b1, b2⟩ := (BoAll.vm s).two
    obtain ⟨p, xs, rfl, sl, al⟩ := b1.tup'
    obtain ⟨p2, ys, rfl, sl2, al2⟩ := b2.tup'
    refine ⟨p, p2, xs, ys, rfl, .inr ⟨(sqT_same mns_same sl).sq, (sqT_same mns_same sl2).sq, q _ H1 r ⟨(e.on r).j, ?_⟩⟩⟩
    have hl : (zipD ds es).length = min xs.length ys.length := by rw [al.len, al2.len]; simp [zipD]
    refine (walk_zipT hl).mono (fun H h => ⟨(h.tup (e.on r).j sl).sq, (h.tup (e.on r).j sl2).sq⟩) fun i H v H' hi g w => ?_
    obtain ⟨T, u1, u2, rfl, hT, rfl, g1, g2⟩ := w
    obtain ⟨d1, hd1, bd1⟩ := al.get g1
    obtain ⟨d2, hd2, bd2⟩ := al2.get g2
    have sm : Same H (upd H T (.tup [u1, u2])) := fun b o z => by rw [upd_ne (ne_of_none z hT)]; exact z
    refine ⟨sm, .t [.d d1, .d d2], ?_, .tup (.inl (.inl upd_same)) (.cons (.leaf (.inr ⟨rfl, bd1⟩)) (.cons (.leaf (.inr ⟨rfl, bd2⟩)) .nil))⟩
    have : (ds.zip es)[i]? = some (d1, d2) := by rw [List.getElem?_zip_eq_some]; exact ⟨hd1, hd2⟩
    simp [zipD, this]
def zipI (p : Int × Int) : Im := .t [.d (.int p.1), .d (.int p.2)]
theorem i_zipTI {ns ms : List Int} (h : EvA c tr Γ true [.tuple (ns.map .int), .tuple (ms.map .int)]) : EvI c (RZ.iZipA c.K tr) Γ true ((ns.zip ms).map zipI) := by
  have e : zipD (ns.map .int) (ms.map .int) = (ns.zip ms).map zipI := by
    unfold zipD
    rw [List.zip_map, List.map_map]
    rfl
  exact e ▸ i_zipT h
/-! ### calls -/
theorem e_max2 (ha : Ev c ta Γ ka (.int i)) (hb : Ev c tb Γ kb (.int j)) : Ev c (tCB (fun xs H Q => ∃ i j, xs = [V.int i, V.int j] ∧ Q (.int (if j > i then j else i)) H) (tCons ta (tCons tb tNil))) Γ .v (.int (if j > i then j else i)) :=
  d_cb (a_cons ha (a_cons hb a_nil)) fun H O vs Q s q => by
    obtain ⟨y, z, rfl, b1, b2⟩ := s.two
    exact ⟨i, j, by rw [b1.int', b2.int'], q _ H Rr.rf (.int _)⟩
theorem e_index {ns : List Int} {m : Nat} (h : Ev c ta Γ ka (.tuple (ns.map .int))) (hb : Ev c tb Γ kb (.int i)) (hm : ns[m]? = some i) (hno : ∀ n, n < m → ns[n]? ≠ some i) : Ev c (tTM c.K (rIndexT c.K) ta (tCons tb tNil)) Γ .v (.int (m : Nat)) := fun H0 O H σ e Q q =>
  h H0 O H σ e _ fun v H1 r1 s1 => by
    obtain ⟨p, xs, rfl, s, al⟩ := (Res.bo e s1).tup'
    refine ⟨⟨p, xs, rfl, s⟩, hb H0 O H1 σ (e.on r1) _ fun u H2 r2 s2 => ?_⟩
    obtain ⟨p', xs', e', s', al'⟩ := (Res.bo e (Res.on e r1 r2 s1)).tup'
    cases e'
    have := al'.ints
    subst this
    exact ⟨p, ns, i, m, rfl, by rw [(Res.bo (e.on r1) s2).int'], s'.sq, hm, hno, q _ H2 (r1.tr r2) (.int _)⟩
theorem e_lenSet {ns ks : List Int} (h : Ev c ta Γ ka (.tuple (ns.map .int))) (hl : ns.length ≤ 4000) (hn : ks.Nodup) (hk : ∀ k, k ∈ ks ↔ k ∈ ns) : Ev c (tLenSetT c.K ta) Γ .v (.int (ks.length : Nat)) := fun H0 O H σ e Q q =>
  h H0 O H σ e _ fun v H1 r1 s1 => by
    obtain ⟨p, xs, rfl, s, al⟩ := (Res.bo e s1).tup'
    have := al.ints
    subst this
    exact ⟨p, ns, ks, rfl, s.sq, hl, hn, hk, q _ H1 r1 (.int _)⟩
/-- list * int, the list a new one -/
theorem e_rep (h : Ev c ta Γ .o (.list ds)) (hf : flatAll ds = true) (hb : Ev c tb Γ kb (.int i)) (h1 : -(2 ^ 63) ≤ i) (h2 : i < 2 ^ 63) (hl : ds.length * i.toNat ≤ 1000000) : Ev c (tOp rMulA ta tb) Γ .o (.list (List.replicate i.toNat ds).flatten) := fun H0 O H σ e Q q =>
  h H0 O H σ e _ fun v H1 r1 s1 => hb H0 O H1 σ (e.on r1) _ fun u H2 r2 s2 => by
    obtain ⟨fp, f, nd, new⟩ : Res c O H H2 v (.list ds) .o := Res.on e r1 r2 s1
    obtain ⟨p, xs, g, rfl, rfl, hp, fa⟩ := f.list'
    obtain ⟨_, al⟩ := fa.flat0 hf
    refine .inr ⟨p, i, xs, rfl, (Res.bo (e.on r1) s2).int', hp, h1, h2, by rw [al.len]; exact sizeOk hl, fun p' hp' => ?_⟩
    have sm : Same H2 (upd H2 p' (.lst (List.replicate i.toNat xs).flatten)) := fun b o z => by rw [upd_ne (ne_of_none z hp')]; exact z
    have rep : ∀ n : Nat, BoAll c H2 (List.replicate n xs).flatten (List.replicate n ds).flatten := by
      intro n
      induction n with
      | zero => exact .nil
      | succ n ih => rw [List.replicate_succ, List.replicate_succ, List.flatten_cons, List.flatten_cons]; exact al.app ih
    have fl : ∀ n : Nat, flatAll (List.replicate n ds).flatten = true := by
      intro n
      refine flatAll_mem fun d hd => ?_
      obtain ⟨l, hl, hd⟩ := List.mem_flatten.mp hd
      rw [(List.mem_replicate.mp hl).2] at hd
      exact flatAll_one hf hd
    refine q _ _ ((r1.tr r2).tr (Rr.same sm)) ⟨[p'], .lst upd_same (FoAll.leaves (fl _) ((rep _).same sm)), by simp, fun a ha => ?_⟩
    cases List.mem_singleton.mp ha
    exact (r1.tr r2).back e.jH hp'
/-! ### unpacking -/
theorem q_unp {n : Nat} {gs : TGs} {u : TS} {P : Out → Prop} (Pd : PyData → Prop) (h : EvN c te Γ k Pd)
    (p : ∀ d, Pd d → ∃ ds Γ' js, (d = .tuple ds ∨ d = .list ds) ∧ flatAll ds = true ∧ ds.length = n ∧ EvGs c gs (ds.map Im.d) Γ Γ' js ∧ Sd c u Γ' P) : Sd c (tSeq (tAsg te (gTupA c.K n gs)) u) Γ P := fun H0 O H σ D e s =>
  h H0 O H σ e _ fun v d H2 pd r rs => by
    obtain ⟨ds, Γ', js, hd, hf, hn, hg, hu⟩ := p d pd
    have e2 := e.on r
    have key : ∃ a xs, v = .ref a ∧ (SqT c.K H2 a xs ∨ SqL c.K H2 a xs) ∧ BoAll c H2 xs ds := by
      rcases hd with rfl | rfl
      · obtain ⟨a, xs, rfl, sl, al⟩ := (Res.bo e rs).tup'
        exact ⟨a, xs, rfl, .inl sl.sq, al⟩
      · obtain ⟨a, xs, rfl, _, sl, al⟩ := (Res.bo e rs).lst'
        exact ⟨a, xs, rfl, .inr sl, al⟩
    obtain ⟨a, xs, rfl, sl, al⟩ := key
    exact ⟨a, xs, rfl, sl, al.len.trans hn, hg H0 O H2 σ H2 false xs e2 e2.jH Rr.rf (fun z => nomatch z) (.ofFlat hf al) _ fun σ' e' _ => hu H0 O H2 σ' D e' s⟩
/-- data drawn one after another -/
theorem n_drawsP {wi : TI} {g : TG} {vs : List Nat} {items : List Im} (Q : PyData → Prop) (hQ : ∀ d, Q d → flatD d = true) (hi : EvI c wi Γ fz items) (hl : items.length ≤ 1000000)
    (hb : ∀ a ∈ items, ∃ Γ' js, EvG c g a (wipeG Γ vs) Γ' js ∧ (∀ j ∈ js, j ∈ vs) ∧ ∃ k, EvN c te Γ' k Q) :
    EvN c (tLc wi g tYes te vs) Γ .o (fun d => ∃ acc, d = .list acc ∧ acc.length = items.length ∧ ∀ x ∈ acc, Q x) := by
  refine n_lc (fun m acc => acc.length = m ∧ ∀ x ∈ acc, Q x) hi hl ⟨rfl, fun _ h => nomatch h⟩ fun m a acc ha hM => ?_
  obtain ⟨Γ', js, h1, h2, k, h3⟩ := hb a (List.mem_of_getElem? ha)
  refine ⟨Γ', js, h1, h2, true, Q, t_yes, fun _ => ⟨h3.fo hQ, fun d hd => ⟨by simp [hM.1], fun x hx => ?_⟩⟩, fun e => nomatch e⟩
  rcases List.mem_append.mp hx with w | w
  · exact hM.2 x w
  · rw [List.mem_singleton.mp w]; exact hd
end Lm

/-! what more defs promise: allocations, orders -/
namespace Lm
open PySem PySem.Spec PyProof.Rows L2
/-- an allocation of b buckets to v variants -/
structure Alc (ns : List Int) (v b : Int) : Prop where
  len : (ns.length : Int) = v
  sum : ns.sum = b
  nn : ∀ n ∈ ns, 0 ≤ n
theorem sum_nn : ∀ {ns : List Int}, (∀ n ∈ ns, 0 ≤ n) → 0 ≤ ns.sum
  | [], _ => by simp
  | n :: ns, h => by
    have h1 := sum_nn (ns := ns) fun m hm => h m (by simp [hm])
    have h2 := h n (by simp)
    simp only [List.sum_cons]; omega
theorem le_sum : ∀ {ns : List Int}, (∀ n ∈ ns, 0 ≤ n) → ∀ m ∈ ns, m ≤ ns.sum
  | [], _, m, hm => nomatch hm
  | n :: ns, h, m, hm => by
    have h1 := sum_nn (ns := ns) fun m hm => h m (by simp [hm])
    have h2 := h n (by simp)
    simp only [List.sum_cons]
    rcases List.mem_cons.mp hm with q | q
    · rw [q]; omega
    · have := le_sum (ns := ns) (fun m hm => h m (by simp [hm])) m q
      omega
theorem Alc.le {ns : List Int} {v b : Int} (h : Alc ns v b) : ∀ n ∈ ns, n ≤ b := fun n hn => h.sum ▸ le_sum h.nn n hn
theorem Alc.b0 {ns : List Int} {v b : Int} (h : Alc ns v b) : 0 ≤ b := h.sum ▸ sum_nn h.nn
theorem Alc.isAlloc {ns : List Int} {v b : Int} (h : Alc ns v b) : isAlloc (.tuple (ns.map .int)) v b = true := by
  unfold Lm.isAlloc
  rw [areInts_of fun n hn => ⟨h.nn n hn, h.le n hn⟩, lenT_ints, sumT_ints, h.len, h.sum]
  simp
def sp_is_bounded_allocation (K : PySem.W.Frag) : Sp := spD K fun ds k d => ∃ (ns : List Int) (v b : Int), ds = [.tuple (ns.map .int)] ∧ Alc ns v b ∧ 1 ≤ v ∧ v ≤ 5 ∧ b ≤ 20 ∧ k = .v ∧ d = .bool true
def sp_check_allocation (K : PySem.W.Frag) : Sp := spD K fun ds k d => ∃ (ns : List Int) (v b : Int) (nm : Str), ds = [.tuple (ns.map .int), .str nm] ∧ Alc ns v b ∧ 1 ≤ v ∧ v ≤ 5 ∧ b ≤ 20 ∧ k = .v ∧ d = .none
def sp_check_alike (K : PySem.W.Frag) : Sp := spD K fun ds k d => ∃ (ms ns : List Int) (v b : Int) (nm : Str), ds = [.tuple (ms.map .int), .tuple (ns.map .int), .str nm] ∧ Alc ms v b ∧ Alc ns v b ∧ v ≤ 1000 ∧ k = .v ∧ d = .none
/-- what goes over from one to the other -/
def trI (ns ms : List Int) : Int := ((ns.zip ms).map fun p => if 0 > p.1 - p.2 then 0 else p.1 - p.2).sum
def sp_transfer (K : PySem.W.Frag) : Sp := spD K fun ds k d => ∃ (ns ms : List Int) (v b : Int), ds = [.tuple (ns.map .int), .tuple (ms.map .int)] ∧ Alc ns v b ∧ Alc ms v b ∧ 1 ≤ v ∧ v ≤ 5 ∧ b ≤ 20 ∧ k = .v ∧ d = .int (trI ns ms)
/-- the numbers from 0 to m - 1, each once -/
structure IsOrd (ns : List Int) (m : Int) : Prop where
  len : (ns.length : Int) = m
  nd : ns.Nodup
  rng : ∀ n ∈ ns, 0 ≤ n ∧ n < m
def sp_is_order (K : PySem.W.Frag) : Sp := spD K fun ds k d => ∃ (ns : List Int) (m : Int), ds = [.tuple (ns.map .int), .int m] ∧ IsOrd ns m ∧ m ≤ 1000 ∧ k = .v ∧ d = .bool true
def placedI (ns os : List Int) : List Int := (upI 0 os.length).map fun i => ns.getD (os.idxOf i) 0
def sp_placed (K : PySem.W.Frag) : Sp := spD K fun ds k d => ∃ (ns os : List Int) (m : Int), ds = [.tuple (ns.map .int), .tuple (os.map .int)] ∧ IsOrd os m ∧ (ns.length : Int) = m ∧ m ≤ 1000 ∧ k = .v ∧ d = .tuple ((placedI ns os).map .int)
def sp_renamed_shares (K : PySem.W.Frag) : Sp := spD K fun ds k d => ∃ (ns os : List Int) (v b : Int), ds = [.tuple (ns.map .int), .tuple (os.map .int)] ∧ Alc ns v b ∧ IsOrd os v ∧ 1 ≤ v ∧ v ≤ 5 ∧ b ≤ 20 ∧ k = .v ∧ d = .tuple ((placedI ns os).map .int)
def sp__law_allocation (K : PySem.W.Frag) : Sp := spS K fun ds k P => ∃ v b : Int, ds = [.int v, .int b] ∧ 1 ≤ v ∧ v ≤ 1000 ∧ 0 ≤ b ∧ b ≤ 1000 ∧ k = .v ∧ P = fun d => ∃ ns : List Int, d = .tuple (ns.map .int) ∧ Alc ns v b
def sp__law_order (K : PySem.W.Frag) : Sp := spS K fun ds k P => ∃ m : Int, ds = [.int m] ∧ 0 ≤ m ∧ m ≤ 1000 ∧ k = .v ∧ P = fun d => ∃ ns : List Int, d = .tuple (ns.map .int) ∧ IsOrd ns m
/-! orders: every number has its place -/
theorem nodup_inj {ns : List Int} (h : ns.Nodup) {i j : Nat} (hi : i < ns.length) (hj : j < ns.length) (e : ns[i] = ns[j]) : i = j := by
  have p := List.pairwise_iff_getElem.mp h
  rcases Nat.lt_trichotomy i j with q | q | q
  · exact absurd e (p i j hi hj q)
  · exact q
  · exact absurd e.symm (p j i hj hi q)
theorem perm_sum {as bs : List Int} (h : as.Perm bs) : as.sum = bs.sum := by
  induction h with
  | nil => rfl
  | cons x _ ih => simp [ih]
  | swap x y l => simp only [List.sum_cons]; omega
  | trans _ _ ih1 ih2 => exact ih1.trans ih2
theorem mem_upI {n : Nat} {i : Int} : i ∈ upI 0 n ↔ 0 ≤ i ∧ i < n := by
  unfold upI
  rw [List.mem_map]
  constructor
  · rintro ⟨m, hm, rfl⟩
    have := List.mem_range.mp hm
    omega
  · rintro ⟨h0, h1⟩
    exact ⟨i.toNat, List.mem_range.mpr (by omega), by omega⟩
theorem nodup_upI (n : Nat) : (upI 0 n).Nodup := by
  rw [upI0]
  exact List.Pairwise.map _ (fun a b h e => h (Int.ofNat.inj e)) List.nodup_range
theorem IsOrd.mem {ns : List Int} {m : Int} (h : IsOrd ns m) {i : Int} (h0 : 0 ≤ i) (h1 : i < m) : i ∈ ns := by
  refine Decidable.byContradiction fun hn => ?_
  have h2 : (i :: ns).length ≤ (upI 0 ns.length).length := length_sub (List.nodup_cons.mpr ⟨hn, h.nd⟩) fun k hk => by
    have hl := h.len
    rcases List.mem_cons.mp hk with q | q
    · rw [q, mem_upI]; omega
    · rw [mem_upI]; have := h.rng k q; omega
  simp [upI] at h2
  omega
theorem IsOrd.perm {ns : List Int} {m : Int} (h : IsOrd ns m) : (upI 0 ns.length).Perm ns := by
  refine (List.perm_iff_count.mpr fun i => ?_)
  by_cases q : 0 ≤ i ∧ i < (ns.length : Int)
  · rw [upI_count q.1 q.2, h.nd.count]
    rw [if_pos (h.mem q.1 (by have := h.len; omega))]
  · rw [List.count_eq_zero_of_not_mem (fun z => q (mem_upI.mp z)), List.count_eq_zero_of_not_mem (fun z => q (by have := h.rng i z; have := h.len; omega))]
theorem IsOrd.idx {ns : List Int} {m : Int} (h : IsOrd ns m) {i : Int} (h0 : 0 ≤ i) (h1 : i < m) : ∃ hj : ns.idxOf i < ns.length, ns[ns.idxOf i]? = some i ∧ ∀ n, n < ns.idxOf i → ns[n]? ≠ some i := by
  have hj : ns.idxOf i < ns.length := List.idxOf_lt_length_of_mem (h.mem h0 h1)
  refine ⟨hj, ?_, fun n hn e => ?_⟩
  · rw [List.getElem?_eq_getElem hj, List.getElem_idxOf hj]
  · have hl : n < ns.length := by omega
    have e1 : ns[n] = i := by rw [List.getElem?_eq_getElem hl] at e; exact Option.some.inj e
    have e2 : ns[ns.idxOf i] = i := List.getElem_idxOf hj
    have := nodup_inj h.nd hl hj (e1.trans e2.symm)
    omega
theorem IsOrd.idxOf_get {ns : List Int} {m : Int} (h : IsOrd ns m) {j : Nat} (hj : j < ns.length) : ns.idxOf ns[j] = j := by
  have hm : ns[j] ∈ ns := List.getElem_mem hj
  have hl : ns.idxOf ns[j] < ns.length := List.idxOf_lt_length_of_mem hm
  exact nodup_inj h.nd hl hj (List.getElem_idxOf hl)
/-- a sum over the placed is the sum over the old -/
theorem IsOrd.sums {os : List Int} {m : Int} (h : IsOrd os m) (f : Nat → Int) : ((upI 0 os.length).map fun i => f (os.idxOf i)).sum = ((List.range os.length).map f).sum := by
  have e : os.map (fun i => f (os.idxOf i)) = (List.range os.length).map f := by
    apply List.ext_getElem
    · simp
    · intro j h1 h2
      simp only [List.getElem_map, List.getElem_range]
      rw [h.idxOf_get (by simpa using h1)]
  rw [← e]
  exact perm_sum (h.perm.map _)
theorem sum_range {ns : List Int} : ((List.range ns.length).map fun j => ns.getD j 0).sum = ns.sum := by
  congr 1
  apply List.ext_getElem
  · simp
  · intro j h1 h2
    have h2' : j < ns.length := h2
    simp [List.getD_eq_getElem?_getD, List.getElem?_eq_getElem h2']
theorem IsOrd.alc {ns os : List Int} {v b : Int} (h : Alc ns v b) (o : IsOrd os v) : Alc (placedI ns os) v b := by
  have hl : os.length = ns.length := by have := h.len; have := o.len; omega
  refine ⟨?_, ?_, ?_⟩
  · simp [placedI, upI, o.len]
  · unfold placedI
    rw [o.sums fun j => ns.getD j 0, hl, sum_range, h.sum]
  · intro n hn
    obtain ⟨i, _, rfl⟩ := List.mem_map.mp hn
    rw [List.getD_eq_getElem?_getD]
    cases q : ns[os.idxOf i]? with
    | none => exact Int.le_refl _
    | some x => exact h.nn x (List.mem_of_getElem? q)
def t0 (a b : Int) : Int := if 0 > a - b then 0 else a - b
theorem trI_range {ns ms : List Int} (h : ns.length = ms.length) : trI ns ms = ((List.range ns.length).map fun j => t0 (ns.getD j 0) (ms.getD j 0)).sum := by
  unfold trI
  congr 1
  apply List.ext_getElem
  · simp [h]
  · intro j h1 h2
    have h3 : j < ns.length := by simpa using h2
    have h4 : j < ms.length := by omega
    simp [t0, List.getD_eq_getElem?_getD, List.getElem?_eq_getElem h3, List.getElem?_eq_getElem h4]
theorem placedI_get {ns os : List Int} {j : Nat} (h : j < os.length) : (placedI ns os).getD j 0 = ns.getD (os.idxOf (j : Int)) 0 := by
  unfold placedI
  rw [List.getD_eq_getElem?_getD]
  simp [upI, h]
theorem trI_placed {ns ms os : List Int} {v b b' : Int} (h : Alc ns v b) (g : Alc ms v b') (o : IsOrd os v) : trI (placedI ns os) (placedI ms os) = trI ns ms := by
  have l1 : os.length = ns.length := by have := h.len; have := o.len; omega
  have l2 : os.length = ms.length := by have := g.len; have := o.len; omega
  rw [trI_range (by simp [placedI]), trI_range (by omega)]
  have e1 : (placedI ns os).length = os.length := by simp [placedI, upI]
  rw [e1, ← l1, ← o.sums fun j => t0 (ns.getD j 0) (ms.getD j 0), upI0, List.map_map]
  congr 1
  apply List.map_congr_left
  intro j hj
  have := List.mem_range.mp hj
  show t0 _ _ = t0 _ _
  rw [placedI_get this, placedI_get this]
end Lm

namespace Lm
open PySem PySem.Spec PyProof.Rows L2
section
variable {c : Ct} {H H' H0 H1 H2 H3 : Hp} {O : List Addr} {σ : L2.St} {Γ Γ' Γ1 : List (Option Rs)} {te : TE} {k : Kd} {i : Int}
theorem rgV_upI (i : Int) : rgV 0 i = (upI 0 i.toNat).map V.int := by
  unfold rgV upI
  rw [List.map_map, Int.sub_zero]
  rfl
theorem erase_map {α : Type} (f : Int → α) : ∀ (l : List Int) (k : Nat), (l.map f).eraseIdx k = (l.eraseIdx k).map f
  | [], _ => rfl
  | _ :: _, 0 => rfl
  | x :: l, k + 1 => by
    show f x :: (l.map f).eraseIdx k = f x :: (l.eraseIdx k).map f
    rw [erase_map f l k]
theorem erase_perm : ∀ (l : List Int) (k : Nat) (h : k < l.length), (l[k] :: l.eraseIdx k).Perm l
  | _ :: _, 0, _ => List.Perm.refl _
  | x :: l, k + 1, h => by
    have hk : k < l.length := by simpa using h
    show (l[k]'hk :: x :: l.eraseIdx k).Perm (x :: l)
    exact (List.Perm.swap ..).trans (List.Perm.cons x (erase_perm l k hk))
theorem yesT {σ : L2.St} {H : Hp} {Q : Bool → Hp → Prop} (h : Q true H) : tYes σ H Q := h
/-- list(range(n)) -/
theorem e_listRg (h : Ev c te Γ k (.int i)) (h0 : 0 ≤ i) (h1 : i ≤ 1000000) : Ev c (tLstRg (tRg1 te)) Γ .o (.list ((upI 0 i.toNat).map .int)) := fun H0 O H σ e Q q =>
  h H0 O H σ e _ fun v H1 r s => ⟨i, (Res.bo e s).int', .of_le (by decide) (by omega) (by decide) h0, fun p hp => by
    have sm : Same H1 (upd H1 p (.lst (rgV 0 i))) := fun b o z => by rw [upd_ne (ne_of_none z hp)]; exact z
    refine q _ _ (r.tr (Rr.same sm)) ⟨[p], .lst upd_same (FoAll.leaves (flatAll_ints _) ?_), by simp, fun a ha => ?_⟩
    · rw [rgV_upI]; exact BoAll.ofInts _
    · cases List.mem_singleton.mp ha
      exact r.back e.jH hp⟩
/-- all the items of a list in any order, one after another taken out of it -/
theorem s_popAll {K : PySem.W.Frag} {st l : Addr} {E : XK} {m : Int} {ns : List Int} {P : Out → Prop} (g0 : Γ[0]? = some (some (.r (.ref st)))) (g1 : Γ[1]? = some (some (.v (.int m)))) (g2 : Γ[2]? = some (some (.o (.list (ns.map .int)))))
    (ho : IsOrd ns m) (hm : m ≤ 1000) (p : ∀ ms, IsOrd ms m → P (.rt .v (.tuple (ms.map .int)))) :
    Sd (sc K st l) (tRet (tCB (rTuple K) (tCons (tLc (iRng1 (tCons (tVar 1) tNil)) (gName 3) tYes (tBM K "list" rPopAt (tVar 2) (tCons (tCall (sp__law_next K) [] E (tCons (tVar 0) (tCons (tCB (rLen K) (tCons (tVar 2) tNil)) tNil))) tNil)) [3]) tNil))) Γ P := fun H0 O H σ D e s => by
  have s0 : σ[0]? = some (some (.ref st)) := e.slotR g0
  obtain ⟨v1, s1, b1⟩ := e.slotV g1
  have := b1.int'
  subst this
  obtain ⟨v2, fp, s2, f2, nd2, sub2⟩ := e.slotO g2
  obtain ⟨L, xs, f, rfl, rfl, hL, fa⟩ := f2.list'
  obtain ⟨_, al⟩ := fa.flat0 (flatAll_ints ns)
  have := al.ints
  subst this
  have LO : L ∈ O := sub2 L (by simp)
  have Lst : L ≠ st := e.okO L LO st l rfl
  have hlen := ho.len
  have hm0 : 0 ≤ m := by omega
  refine ⟨_, s1, m, rfl, by omega, by omega, fun C hC => lc_it walk_range (fun n H' => ∃ (left acc : List Int), H' L = some (.lst (left.map V.int)) ∧ H' C = some (.lst (acc.map V.int)) ∧ acc.length = n ∧ (left.length : Int) = m - n ∧ (acc ++ left).Nodup ∧ (∀ x ∈ acc ++ left, 0 ≤ x ∧ x < m) ∧ Ji (sc K st l) H' ∧ ∀ a o, a ≠ st → a ≠ L → a ≠ C → H a = some o → H' a = some o) ?_ (fun _ _ _ _ => trivial) ?_ ?_⟩
  · have LC : L ≠ C := fun z => by rw [z, hC] at hL; cases hL
    have sm : Same H (upd H C (.lst [])) := fun b o z => by rw [upd_ne (ne_of_none z hC)]; exact z
    exact ⟨ns, [], by rw [upd_ne LC]; exact hL, upd_same, rfl, by omega, ho.nd, ho.rng, e.jH.same sm, fun a o _ _ q z => by rw [upd_ne q]; exact z⟩
  · rintro i x H' H'' hi ⟨left, acc, hl, hc, ha, hll, nd, rg, jH, fr⟩ ⟨rfl, rfl⟩
    have k0 : ((L2.wipe σ [3]).set 3 (some (V.int (0 + (i : Int)))))[0]? = some (some (.ref st)) := by simp [L2.wipe, List.getElem?_set, s0]
    have k2 : ((L2.wipe σ [3]).set 3 (some (V.int (0 + (i : Int)))))[2]? = some (some (.ref L)) := by simp [L2.wipe, List.getElem?_set, s2]
    have CL : C ≠ L := fun z => by rw [← z, hC] at hL; cases hL
    have Cst : C ≠ st := fun z => by
      obtain ⟨_, _, _, h1, _⟩ := e.jH st l rfl
      rw [← z, hC] at h1; cases h1
    have lpos : 0 < left.length := by omega
    refine ⟨(wipe_set (by simp)).trans (wipe_wipe fun _ h => h), ?_⟩
    refine yesT ?_
    dsimp only
    rw [if_pos rfl]
    refine ⟨_, k2, .inl ⟨rfl, _, .inl (.inl hl)⟩, _, k0, _, k2, L, _, rfl, .inl (.inl (.inl hl)), ?_⟩
    refine ⟨st, l, [.int (left.map V.int).length], [.int (left.map V.int).length], .v, _, rfl, jH st l rfl, .cons (.int _) .nil, ⟨_, rfl, by rw [List.length_map]; omega, by rw [List.length_map]; omega, rfl, rfl⟩, ?_⟩
    rintro v d H2 ⟨n, rfl, n0, n1⟩ r rt
    rw [List.length_map] at n1
    have := rt.2.int'
    subst this
    have hl2 : H2 L = some (.lst (left.map V.int)) := r.1 L _ (fun st' l' q => by cases q; exact Lst) hl
    have hc2 : H2 C = some (.lst (acc.map V.int)) := r.1 C _ (fun st' l' q => by cases q; exact Cst) hc
    have nk : n.toNat < left.length := by omega
    refine ⟨L, left.map V.int, n, n.toNat, .int left[n.toNat], rfl, rfl, hl2, by omega, by omega, ?_, by simp [nk], acc.map V.int, by rw [upd_ne CL]; exact hc2, by rw [List.length_map, sizeLine_eq]; omega, left.eraseIdx n.toNat, acc ++ [left[n.toNat]], ?_, ?_, by simp [ha], ?_, ?_, ?_, ?_, ?_⟩
    · unfold seqIndex?
      have h1 : ¬ n < 0 := by omega
      simp [h1, n0, n1]
    · rw [upd_ne CL.symm, upd_same, erase_map]
    · rw [upd_same, List.map_append]; rfl
    · rw [List.length_eraseIdx]
      simp [nk]
      omega
    · have pe : (acc ++ [left[n.toNat]] ++ left.eraseIdx n.toNat).Perm (acc ++ left) := by
        rw [List.append_assoc]
        exact List.Perm.append_left acc (erase_perm left n.toNat nk)
      exact pe.nodup_iff.mpr nd
    · intro x hx
      have pe : (acc ++ [left[n.toNat]] ++ left.eraseIdx n.toNat).Perm (acc ++ left) := by
        rw [List.append_assoc]
        exact List.Perm.append_left acc (erase_perm left n.toNat nk)
      exact rg x (pe.mem_iff.mp hx)
    · have j2 := r.2 jH
      intro st' l' q
      cases q
      obtain ⟨ns', x', k', g1, g2, g3, g4⟩ := j2 st l rfl
      have lL : l ≠ L := fun z => by
        obtain ⟨ns'', x'', k'', h1, h2, h3, h4⟩ := e.j st l rfl
        rw [z, mns_in LO] at h2
        cases h2
      have lC : l ≠ C := fun z => by
        obtain ⟨ns'', x'', k'', h1, h2, h3, h4⟩ := e.jH st l rfl
        rw [z, hC] at h2
        cases h2
      exact ⟨ns', x', k', by rw [upd_ne Cst.symm, upd_ne Lst.symm]; exact g1, by rw [upd_ne lC, upd_ne lL]; exact g2, g3, g4⟩
    · intro a o a1 a2 a3 z
      rw [upd_ne a3, upd_ne a2]
      exact r.1 a o (fun st' l' q => by cases q; exact a1) (fr a o a1 a2 a3 z)
  · rintro H' ⟨left, acc, hl, hc, ha, hll, nd, rg, jH, fr⟩
    have e0 : left = [] := List.eq_nil_of_length_eq_zero (by omega)
    subst e0
    rw [List.append_nil] at nd rg
    refine ⟨C, acc.map V.int, rfl, .inl ⟨.inl (.inl hc), newTk (c := sc K st l) fun q H2 hq sm tp => s _ (p acc ⟨by omega, nd, rg⟩) (.ref q) H2 ⟨fun a o ka ha' => sm _ _ (fr a o (ka st l rfl) (fun z => ?_) (fun z => ?_) (e.rH.1 a o ka ha')), fun _ => jH.same sm⟩ ⟨flatT acc, .tup tp (BoAll.ofInts acc)⟩⟩⟩
    · rw [z, e.fr L LO] at ha'; cases ha'
    · have := e.rH.1 a o ka ha'
      rw [z, hC] at this; cases this
end
theorem eqvT (ns ms : List Int) : PyData.eqv (.tuple (ns.map .int)) (.tuple (ms.map .int)) = decide (ns = ms) := by
  simp only [PyData.eqv]
  exact PySem.W.ked_eqvAll ns ms
theorem shapedT (ns : List Int) : SeqAt.shaped (.tuple (ns.map .int)) = true := by
  simp [SeqAt.shaped, PyData.canLay0, PyData.canLayAll0, PyData.depth, PyData.depthAll, PySem.W.ke_canLayAll0, PySem.W.ke_depthAll]
section
variable {c : Ct} {Γ : List (Option Rs)} {ta tb : TE} {ka kb : Kd}
theorem e_eqTT {ns ms : List Int} (ha : Ev c ta Γ ka (.tuple (ns.map .int))) (hb : Ev c tb Γ kb (.tuple (ms.map .int))) : Ev c (tOp (rEqA c.K) ta tb) Γ .v (.bool (decide (ns = ms))) :=
  (e_eqD ha hb (shapedT _) (shapedT _)).to (by rw [eqvT])
theorem e_neTT {ns ms : List Int} (ha : Ev c ta Γ ka (.tuple (ns.map .int))) (hb : Ev c tb Γ kb (.tuple (ms.map .int))) : Ev c (tOp (rNeA c.K) ta tb) Γ .v (.bool (!decide (ns = ms))) :=
  (e_neD ha hb (shapedT _) (shapedT _)).to (by rw [eqvT])
theorem e_neB {a b : Bool} (ha : Ev c ta Γ ka (.bool a)) (hb : Ev c tb Γ kb (.bool b)) : Ev c (tOp (rNeA c.K) ta tb) Γ .v (.bool (a != b)) :=
  e_neS ha hb rfl rfl rfl (by cases a <;> cases b <;> rfl)
end
end Lm

/-! allocations: how they are made, what goes over -/
namespace Lm
open PySem PySem.Spec PyProof.Rows L2
theorem alc0 {v : Int} (h : 0 ≤ v) : Alc ((upI 0 v.toNat).map fun _ => 0) v (0 : Nat) := by
  refine ⟨by simp [upI]; omega, ?_, fun n hn => ?_⟩
  · generalize upI 0 v.toNat = l
    induction l with
    | nil => rfl
    | cons a l ih => rw [List.map_cons, List.sum_cons, ih]; rfl
  · obtain ⟨_, _, rfl⟩ := List.mem_map.mp hn
    exact Int.le_refl _
theorem sum_set : ∀ {ns : List Int} {m : Nat} {x : Int}, m < ns.length → (ns.set m x).sum = ns.sum - ns.getD m 0 + x
  | [], _, _, h => by simp at h
  | n :: ns, 0, x, _ => by
    show x + ns.sum = (n + ns.sum) - n + x
    omega
  | n :: ns, m + 1, x, h => by
    have := sum_set (ns := ns) (m := m) (x := x) (by simpa using h)
    show n + (ns.set m x).sum = (n + ns.sum) - ns.getD m 0 + x
    omega
theorem Alc.one {ns : List Int} {v : Int} {b m : Nat} (h : Alc ns v b) (hm : m < ns.length) : Alc (ns.set m (ns.getD m 0 + 1)) v ((b + 1 : Nat) : Int) := by
  refine ⟨by rw [List.length_set]; exact h.len, ?_, fun n hn => ?_⟩
  · have := h.sum
    rw [sum_set hm]
    omega
  · rcases List.mem_or_eq_of_mem_set hn with q | q
    · exact h.nn n q
    · have : ns.getD m 0 ∈ ns := by
        rw [List.getD_eq_getElem?_getD, List.getElem?_eq_getElem hm]
        exact List.getElem_mem hm
      have := h.nn _ this
      omega
theorem ord_upI {m : Int} (h : 0 ≤ m) : IsOrd (upI 0 m.toNat) m := by
  refine ⟨by simp [upI]; omega, nodup_upI _, fun n hn => ?_⟩
  have := mem_upI.mp hn
  omega
/-! ### sums over two lists at once -/
def zs (f : Int → Int → Int) (ns ms : List Int) : Int := ((List.range ns.length).map fun j => f (ns.getD j 0) (ms.getD j 0)).sum
theorem zs_cons {f : Int → Int → Int} {n m : Int} {ns ms : List Int} : zs f (n :: ns) (m :: ms) = f n m + zs f ns ms := by
  unfold zs
  rw [List.length_cons, List.range_succ_eq_map, List.map_cons, List.sum_cons, List.map_map]
  rfl
theorem trI_zs {ns ms : List Int} (h : ns.length = ms.length) : trI ns ms = zs t0 ns ms := trI_range h
theorem zs_sub : ∀ {ns ms : List Int}, ns.length = ms.length → zs t0 ns ms - zs t0 ms ns = ns.sum - ms.sum
  | [], [], _ => rfl
  | n :: ns, m :: ms, h => by
    have := zs_sub (ns := ns) (ms := ms) (by simpa using h)
    rw [zs_cons, zs_cons, List.sum_cons, List.sum_cons]
    have : t0 n m - t0 m n = n - m := by unfold t0; split <;> split <;> omega
    omega
  | [], _ :: _, h => by simp at h
  | _ :: _, [], h => by simp at h
theorem t0_nn (a b : Int) : 0 ≤ t0 a b := by unfold t0; split <;> omega
theorem zs_nn : ∀ {ns ms : List Int}, ns.length = ms.length → 0 ≤ zs t0 ns ms
  | [], [], _ => Int.le_refl _
  | n :: ns, m :: ms, h => by
    have := zs_nn (ns := ns) (ms := ms) (by simpa using h)
    have := t0_nn n m
    rw [zs_cons]
    omega
  | [], _ :: _, h => by simp at h
  | _ :: _, [], h => by simp at h
theorem zs_self : ∀ {ns : List Int}, zs t0 ns ns = 0
  | [] => rfl
  | n :: ns => by
    rw [zs_cons, zs_self (ns := ns)]
    unfold t0
    split <;> omega
theorem zs_zero : ∀ {ns ms : List Int}, ns.length = ms.length → zs t0 ns ms = 0 → zs t0 ms ns = 0 → ns = ms
  | [], [], _, _, _ => rfl
  | n :: ns, m :: ms, h, h1, h2 => by
    have hl : ns.length = ms.length := by simpa using h
    rw [zs_cons] at h1 h2
    have a1 := zs_nn hl
    have a2 := zs_nn hl.symm
    have b1 := t0_nn n m
    have b2 := t0_nn m n
    have e := zs_zero hl (by omega) (by omega)
    have c1 : t0 n m = 0 := by omega
    have c2 : t0 m n = 0 := by omega
    have : n = m := by
      unfold t0 at c1 c2
      split at c1 <;> split at c2 <;> omega
    rw [e, this]
  | [], _ :: _, h, _, _ => by simp at h
  | _ :: _, [], h, _, _ => by simp at h
theorem zs_tri : ∀ {as bs cs : List Int}, as.length = bs.length → bs.length = cs.length → zs t0 as cs ≤ zs t0 as bs + zs t0 bs cs
  | [], [], [], _, _ => by decide
  | a :: as, b :: bs, c :: cs, h, g => by
    have := zs_tri (as := as) (bs := bs) (cs := cs) (by simpa using h) (by simpa using g)
    rw [zs_cons, zs_cons, zs_cons]
    have : t0 a c ≤ t0 a b + t0 b c := by unfold t0; split <;> split <;> split <;> omega
    omega
  | [], _ :: _, _, h, _ => by simp at h
  | _ :: _, [], _, h, _ => by simp at h
  | [], [], _ :: _, _, h => by simp at h
  | _ :: _, _ :: _, [], _, h => by simp at h
variable {ns ms ps : List Int} {v b : Int}
theorem Alc.lens (h : Alc ns v b) (g : Alc ms v b) : ns.length = ms.length := by have := h.len; have := g.len; omega
theorem Alc.tr_comm (h : Alc ns v b) (g : Alc ms v b) : trI ms ns = trI ns ms := by
  have l := h.lens g
  have := zs_sub l
  rw [trI_zs l, trI_zs l.symm]
  have := h.sum
  have := g.sum
  omega
theorem Alc.tr_self : trI ns ns = 0 := by rw [trI_zs rfl, zs_self]
theorem Alc.tr_zero (h : Alc ns v b) (g : Alc ms v b) : decide (trI ns ms = 0) = decide (ns = ms) := by
  have l := h.lens g
  rw [decide_eq_decide]
  constructor
  · intro e
    have e2 := h.tr_comm g
    rw [trI_zs l] at e
    rw [trI_zs l, trI_zs l.symm, e] at e2
    exact zs_zero l e e2
  · rintro rfl
    exact Alc.tr_self
theorem Alc.tr_tri (h : Alc ns v b) (g : Alc ms v b) (f : Alc ps v b) : trI ns ps ≤ trI ns ms + trI ms ps := by
  rw [trI_zs (h.lens f), trI_zs (h.lens g), trI_zs (g.lens f)]
  exact zs_tri (h.lens g) (g.lens f)
/-- the differences that are not below 0, told with a test -/
theorem sum_filter (f : Int → Int) (p : Int → Bool) (h : ∀ i, p i = false → f i = 0) : ∀ l : List Int, ((l.filter p).map f).sum = (l.map f).sum
  | [] => rfl
  | a :: l => by
    rw [List.filter_cons, List.map_cons, List.sum_cons, ← sum_filter f p h l]
    cases q : p a with
    | true => simp
    | false => rw [h a q]; simp
theorem trI_up (h : ns.length = ms.length) : trI ns ms = ((upI 0 ns.length).map fun i => t0 (ns.getD i.toNat 0) (ms.getD i.toNat 0)).sum := by
  rw [trI_zs h, upI0, List.map_map]
  rfl
theorem trI_filt (h : ns.length = ms.length) : (((upI 0 ns.length).filter fun i => decide (ms.getD i.toNat 0 < ns.getD i.toNat 0)).map fun i => ns.getD i.toNat 0 - ms.getD i.toNat 0).sum = trI ns ms := by
  rw [trI_up h, ← sum_filter (fun i => t0 (ns.getD i.toNat 0) (ms.getD i.toNat 0)) (fun i => decide (ms.getD i.toNat 0 < ns.getD i.toNat 0))]
  · congr 1
    apply List.map_congr_left
    intro i hi
    have := of_decide_eq_true (List.mem_filter.mp hi).2
    unfold t0
    split <;> omega
  · intro i hi
    have := of_decide_eq_false hi
    unfold t0
    split <;> omega
def sp__law_transfer (K : PySem.W.Frag) : Sp := spD K fun ds k d => ∃ (ns ms : List Int), ds = [.tuple (ns.map .int), .tuple (ms.map .int)] ∧ ns.length = ms.length ∧ ns.length ≤ 1000 ∧ k = .v ∧ d = .int (trI ns ms)
/-- a list that is filled place by place -/
structure Due (ns os due : List Int) (v : Int) (n : Nat) : Prop where
  len : (due.length : Int) = v
  got : ∀ j, j < n → due.getD (os.getD j 0).toNat 0 = ns.getD j 0
theorem gd_lt {l : List Int} {j : Nat} (h : j < l.length) : l.getD j 0 = l[j] := by
  rw [List.getD_eq_getElem?_getD, List.getElem?_eq_getElem h]
  rfl
theorem gd_mem {l : List Int} {j : Nat} (h : j < l.length) : l.getD j 0 ∈ l := by rw [gd_lt h]; exact List.getElem_mem h
variable {os due : List Int} {n : Nat}
theorem Due.step (d : Due ns os due v n) (ho : IsOrd os v) (hn : n < os.length) : Due ns os (due.set (os.getD n 0).toNat (ns.getD n 0)) v (n + 1) := by
  refine ⟨by rw [List.length_set]; exact d.len, fun j hj => ?_⟩
  have hl := d.len
  have r1 := ho.rng _ (gd_mem hn)
  have h1 : (os.getD n 0).toNat < due.length := by omega
  by_cases q : j = n
  · subst q
    rw [List.getD_eq_getElem?_getD, List.getElem?_set_self h1]
    rfl
  · have hj' : j < n := by omega
    have hjl : j < os.length := by omega
    have r2 := ho.rng _ (gd_mem hjl)
    have ne : (os.getD n 0).toNat ≠ (os.getD j 0).toNat := fun e => by
      have e2 : os.getD j 0 = os.getD n 0 := by omega
      rw [gd_lt hn, gd_lt hjl] at e2
      exact q (nodup_inj ho.nd hjl hn e2)
    rw [List.getD_eq_getElem?_getD, List.getElem?_set_ne ne, ← List.getD_eq_getElem?_getD]
    exact d.got j hj'
theorem Due.done (d : Due ns os due v os.length) (ho : IsOrd os v) : due = placedI ns os := by
  have hl := d.len
  have hol := ho.len
  apply List.ext_getElem
  · simp [placedI, upI]; omega
  · intro i h1 h2
    obtain ⟨hj, h3, _⟩ := ho.idx (i := (i : Int)) (by omega) (by omega)
    have := d.got _ hj
    have e1 : os.getD (os.idxOf (i : Int)) 0 = i := by rw [List.getD_eq_getElem?_getD, h3]; rfl
    rw [e1] at this
    have e2 : ((i : Int)).toNat = i := by omega
    rw [e2, gd_lt h1] at this
    rw [this]
    unfold placedI
    simp [upI]
theorem due0 (h : 0 ≤ v) : Due ns os ((upI 0 v.toNat).map fun _ => 0) v 0 := ⟨by simp [upI]; omega, fun j hj => absurd hj (by omega)⟩
theorem upI_at {n m : Nat} {a : Im} (h : ((upI 0 n).map fun i => Im.d (.int i))[m]? = some a) : m < n ∧ a = .d (.int (m : Int)) := by
  unfold upI at h
  rw [List.map_map, List.getElem?_map] at h
  cases q : (List.range n)[m]? with
  | none => rw [q] at h; cases h
  | some j =>
    rw [q] at h
    have hm : m < n := by have := (List.getElem?_eq_some_iff.mp q).1; simpa using this
    have hj : j = m := by rw [List.getElem?_range hm] at q; exact (Option.some.inj q).symm
    subst hj
    refine ⟨hm, (Option.some.inj h).symm.trans ?_⟩
    show Im.d (.int (0 + (j : Int))) = _
    rw [Int.zero_add]
theorem ixN_at {n m : Nat} {i : Int} (hi : i = (m : Int)) (h : m < n) : ixN n i = some m := by
  rw [hi]
  exact Evl.ixN_nat h
theorem at_ints {ns : List Int} {j : Nat} (h : j < ns.length) : atI (ns.map PyData.int) (j : Int) = some (.int (ns.getD j 0)) := atI_nat (by simp [h])
/-- xs[i] = an int, xs a list of ints -/
theorem s_setII {c : Ct} {Γ : List (Option Rs)} {te ta : TE} {k ka : Kd} {P : Out → Prop} {n m : Nat} {x i : Int} {ns : List Int} (hx : Γ[n]? = some (some (.o (.list (ns.map .int))))) (h : Ev c te Γ k (.int x)) (hi : Ev c ta Γ ka (.int i)) (hj : i = (m : Int)) (hm : m < ns.length) (p : P (.nx (Γ.set n (some (.o (.list ((ns.set m x).map .int))))))) : Sd c (tAsg te (gSub (tVar n) ta rSetL)) Γ P :=
  s_setI hx (flatAll_ints _) h rfl hi (ixN_at hj (by simpa using hm)) (by rw [List.map_set] at p; exact p)
theorem q_setII {c : Ct} {Γ : List (Option Rs)} {te ta : TE} {u : TS} {k ka : Kd} {P : Out → Prop} {n m : Nat} {x i : Int} {ns : List Int} (hx : Γ[n]? = some (some (.o (.list (ns.map .int))))) (h : Ev c te Γ k (.int x)) (hi : Ev c ta Γ ka (.int i)) (hj : i = (m : Int)) (hm : m < ns.length) (p : Sd c u (Γ.set n (some (.o (.list ((ns.set m x).map .int))))) P) : Sd c (tSeq (tAsg te (gSub (tVar n) ta rSetL)) u) Γ P :=
  s_seq1 (s_setII hx h hi hj hm rfl) p
end Lm

/-! zip whose tuples are kept; enumerate(zip(a, b)) -/
namespace Lm
open PySem PySem.Spec PyProof.Rows L2
/-- a zip, with what it says of its last tuple -/
abbrev IsZipX (h : Heap) (z TI TO : Addr) (x : Value) (b : Bool) : Prop := h.get? z = some { cls := .type "zip", data := .fields #[x, .bool b, .bool false, .ref TI, .ref TO] }
section
variable {prog : Program} {w : World} {A : Around} {E : Value → Shared → Prop} {s : Shared} {z TI TO i1 i2 : Addr} {fp1 fp2 : List Addr} {n1 n2 i : Nat} {P1 P2 : Nat → Value → Prop} {St1 St2 : Nat → Heap → Prop} {a1 a2 : Value} {b : Bool} {x : Value}
theorem zipX_free {Q : Bool → Shared → Prop} (hz : IsZipX s.heap z TI TO x b) (hx : x = .none ∨ ∃ T : Addr, x = rawInt T) (h1 : Q true s) (h2 : ∀ h', IsZipX h' z TI TO x true → Heap.SameBut z s.heap h' → Q false { s with heap := h' }) :
    wpAny (model prog w) A (Builtin.SmallTypes.ownedTupleIsFree (.ref z)) Q E s := by
  unfold Builtin.SmallTypes.ownedTupleIsFree
  refine wpAny_bind (wpAny_field hz rfl (x := x) rfl ?_)
  rcases hx with rfl | ⟨T, rfl⟩
  · exact wpAny_pure h1
  · show wpAny _ _ (loadIfAlive T >>= _) _ _ _
    cases hT : s.heap.get? T with
    | none =>
      have alive : ∀ {Q : Option Obj → Shared → Prop}, Q none s → wpAny (model prog w) A (loadIfAlive T) Q E s := fun {Q} q => by
        have q' : Q (s.heap.get? T) s := by rw [hT]; exact q
        exact fun _ _ _ => q'
      refine wpAny_bind (alive ?_)
      exact wpAny_pure h1
    | some o =>
      refine wpAny_bind (PySem.W.kdx_alive hT ?_)
      simp only [Option.isNone_some, Bool.false_eq_true, if_false]
      refine wpAny_bind (wpAny_field hz rfl (x := .bool b) rfl ?_)
      cases b with
      | true => exact wpAny_pure (h2 _ hz (Heap.SameBut.refl ..))
      | false => exact wpAny_bind (wpAny_setField_rec hz (by simp) fun h1 hz1 hs1 => wpAny_pure (h2 h1 hz1 hs1))
/-- a turn of zip, whatever became of the last tuple -/
theorem zipX_item {Q : Value → Shared → Prop} (S : ZipSep2 z TI TO i1 i2 fp1 fp2) (D1 : Draws prog w A i1 fp1 n1 P1 St1) (D2 : Draws prog w A i2 fp2 n2 P2 St2)
    (hz : IsZipX s.heap z TI TO x b) (hx : x = .none ∨ ∃ T : Addr, x = rawInt T) (hTI : IsTupOf2 s.heap TI (.ref i1) (.ref i2)) (hTO : IsTupOf2 s.heap TO a1 a2) (st1 : St1 i s.heap) (st2 : St2 i s.heap) (hlt1 : i < n1) (hlt2 : i < n2)
    (hQ : ∀ x1 x2 h' tk x' b', P1 i x1 → P2 i x2 → IsZipX h' z TI TO x' b' → (x' = .none ∨ ∃ T : Addr, x' = rawInt T) → (∃ a1 a2, IsTupOf2 h' TO a1 a2) → St1 (i + 1) h' → St2 (i + 1) h' → IsTupOf2 h' s.heap.objs.size x1 x2 → h'.objs.size = s.heap.objs.size + 1 →
      (∀ c o, c ≠ z → c ≠ TO → c ≠ i1 → c ≠ i2 → s.heap.get? c = some o → h'.get? c = some o) → Q (.ref s.heap.objs.size) { s with heap := h', toks := tk }) :
    wpAny (model prog w) A (Builtin.«zip.__next__» ⟨[.ref z], []⟩) (fun fin s' => ∃ v, fin = .done (.ret v) ∧ Q v s') E s := by
  obtain ⟨hp, g, d, tk0, os⟩ := s
  show wpAny _ _ (field (.ref z) 2 >>= _) _ _ _
  refine wpAny_bind (wpAny_field hz rfl (x := .bool false) rfl ?_)
  show wpAny _ _ (field (.ref z) 3 >>= _) _ _ _
  refine wpAny_bind (wpAny_field hz rfl (x := .ref TI) rfl ?_)
  refine wpAny_bind (wpAny_seqItems hTI rfl ?_)
  show wpAny _ _ (Builtin.SmallTypes.ownedTupleIsFree (.ref z) >>= _) _ _ _
  refine wpAny_bind (zipX_free hz hx ?_ fun g0 hz0 hs0 => ?_)
  · simp only [if_true]
    refine wpAny_bind (wpAny_rule (wpAny_bind (wpAny_field hz rfl (x := .ref TO) rfl ?_)))
    refine wpAny_bind (wpAny_setField_rec hz (by simp) fun g0 hz0 hs0 => ?_)
    replace hz0 : IsZipX g0 z TI TO .ellipsis b := hz0
    replace hs0 : Heap.SameBut z hp g0 := hs0
    refine wpAny_bind ?_
    simp only [List.zipIdx_cons, List.zipIdx_nil, List.forIn_cons, List.forIn_nil]
    refine wpAny_bind (wpAny_bind (wpAny_onRaise ?_))
    show wpAny _ _ (Builtin.SmallTypes.nextOf (.ref i1) >>= _) _ _ ⟨g0, g, d, tk0, os⟩
    refine wpAny_bind (D1.item i _ _ _ hlt1 (D1.over st1 hs0 S.zf1) fun x1 p1 tk1 hx1 sn1 hp1 => wpAny_pure ?_)
    replace hp1 : Heap.SameBut i1 g0 p1 := hp1
    have hU1 : IsTupOf2 p1 TO a1 a2 := hp1.extBut _ _ S.Ti1 (hs0.extBut _ _ S.TOz hTO)
    refine wpAny_bind (wpAny_seqItems (s := ⟨p1, g, d, tk1, os⟩) hU1 rfl ?_)
    refine wpAny_bind (updateSeq_IsTupOf2 (s := ⟨p1, g, d, tk1, os⟩) hU1 fun g1 hT1 hs1 => ?_)
    replace hT1 : IsTupOf2 g1 TO x1 a2 := hT1
    replace hs1 : Heap.SameBut TO p1 g1 := hs1
    refine wpAny_bind (wpAny_letGo (wpAny_pure ?_))
    refine wpAny_bind (wpAny_bind (wpAny_onRaise ?_))
    show wpAny _ _ (Builtin.SmallTypes.nextOf (.ref i2) >>= _) _ _ ⟨g1, g, d, tk1, os⟩
    refine wpAny_bind (D2.item i _ _ _ hlt2 (D2.over (D2.over (D2.over st2 hs0 S.zf2) hp1 S.sep1_2) hs1 S.Tf2) fun x2 p2 tk2 hx2 sn2 hp2 => wpAny_pure ?_)
    replace hp2 : Heap.SameBut i2 g1 p2 := hp2
    have hU2 : IsTupOf2 p2 TO x1 a2 := hp2.extBut _ _ S.Ti2 hT1
    refine wpAny_bind (wpAny_seqItems (s := ⟨p2, g, d, tk2, os⟩) hU2 rfl ?_)
    refine wpAny_bind (updateSeq_IsTupOf2 (s := ⟨p2, g, d, tk2, os⟩) hU2 fun g2 hT2 hs2 => ?_)
    replace hT2 : IsTupOf2 g2 TO x1 x2 := hT2
    replace hs2 : Heap.SameBut TO p2 g2 := hs2
    refine wpAny_bind (wpAny_letGo (wpAny_pure (wpAny_pure ?_)))
    refine wpAny_bind (wpAny_seqItems (s := ⟨g2, g, d, tk2, os⟩) hT2 rfl (wpAny_bind (wpAny_newTuple ?_)))
    have hsz : g2.objs.size = hp.objs.size := by rw [hs2.1, hp2.1, hs1.1, hp1.1, hs0.1]
    have hzz : IsZipX g2 z TI TO .ellipsis b := (hs2.extBut _ _ S.TOz.symm (hp2.extBut _ _ S.zi2 (hs1.extBut _ _ S.TOz.symm (hp1.extBut _ _ S.zi1 hz0))))
    have hkk : ∀ c o, c ≠ z → c ≠ TO → c ≠ i1 → c ≠ i2 → hp.get? c = some o → g2.get? c = some o := fun c o cz cT c1 c2 e =>
      hs2.extBut _ _ cT (hp2.extBut _ _ c2 (hs1.extBut _ _ cT (hp1.extBut _ _ c1 (hs0.extBut _ _ cz e))))
    have hj1 : St1 (i + 1) g2 := D1.over (D1.over (D1.over sn1 hs1 S.Tf1) hp2 S.sep2_1) hs2 S.Tf1
    have hj2 : St2 (i + 1) g2 := D2.over sn2 hs2 S.Tf2
    have hzlt : z < g2.objs.size := Heap.lt_size hzz
    show wpAny _ _ (Builtin.SmallTypes.ownedTupleHandOut (.ref z) (.ref g2.objs.size) >>= _) _ _ ⟨g2.push { cls := .type "tuple", data := .seq #[x1, x2] }, g, d, tk2, os⟩
    refine wpAny_bind ?_
    unfold Builtin.SmallTypes.ownedTupleHandOut
    have hz6 : IsZipX (g2.push { cls := .type "tuple", data := .seq #[x1, x2] }) z TI TO .ellipsis b := Heap.get?_push_of_some _ hzz
    refine wpAny_bind (wpAny_setField_rec hz6 (by simp) fun h7 hz7 hs7 => ?_)
    replace hz7 : IsZipX h7 z TI TO (rawInt g2.objs.size) b := hz7
    refine wpAny_setField_rec hz7 (by simp) fun h8 hz8 hs8 => ?_
    replace hz8 : IsZipX h8 z TI TO (rawInt g2.objs.size) false := hz8
    replace hs7 : Heap.SameBut z (g2.push { cls := .type "tuple", data := .seq #[x1, x2] }) h7 := hs7
    replace hs8 : Heap.SameBut z h7 h8 := hs8
    have up : ∀ c o, c ≠ z → g2.get? c = some o → h8.get? c = some o := fun c o c1 e => hs8.extBut _ _ c1 (hs7.extBut _ _ c1 (Heap.get?_push_of_some _ e))
    have hT8 : IsTupOf2 h8 g2.objs.size x1 x2 := hs8.extBut _ _ (Nat.ne_of_gt hzlt) (hs7.extBut _ _ (Nat.ne_of_gt hzlt) (Heap.get?_push_size _ rfl))
    have hz9 : h8.objs.size = g2.objs.size + 1 := by rw [hs8.1, hs7.1, Heap.size_push]
    rw [hsz] at hz8 hT8 hz9
    refine wpAny_pure ⟨_, rfl, ?_⟩
    show Q (.ref g2.objs.size) ⟨h8, g, d, tk2, os⟩
    rw [hsz]
    exact hQ x1 x2 h8 tk2 _ _ hx1 hx2 hz8 (.inr ⟨_, rfl⟩) ⟨_, _, up _ _ S.TOz hT2⟩ (D1.frame _ _ _ hj1 fun b hb o e => up b o (fun q => S.zf1 (q ▸ hb)) e) (D2.frame _ _ _ hj2 fun b hb o e => up b o (fun q => S.zf2 (q ▸ hb)) e) hT8 hz9 fun c o cz cT c1 c2 e => up c o cz (hkk c o cz cT c1 c2 e)
  · replace hs0 : Heap.SameBut z hp g0 := hs0
    simp only [Bool.false_eq_true, if_false]
    refine wpAny_bind ?_
    rw [← Array.forIn_toList]
    simp only [List.forIn_cons, List.forIn_nil]
    refine wpAny_bind (wpAny_bind (wpAny_holding ?_))
    show wpAny _ _ (Builtin.SmallTypes.nextOf (.ref i1) >>= _) _ _ ⟨g0, g, d, tk0, os⟩
    refine wpAny_bind (D1.item i _ _ _ hlt1 (D1.over st1 hs0 S.zf1) fun x1 p1 tk1 hx1 sn1 hp1 => wpAny_pure ?_)
    replace hp1 : Heap.SameBut i1 g0 p1 := hp1
    refine wpAny_pure ?_
    refine wpAny_bind (wpAny_bind (wpAny_holding ?_))
    show wpAny _ _ (Builtin.SmallTypes.nextOf (.ref i2) >>= _) _ _ ⟨p1, g, d, tk1, os⟩
    refine wpAny_bind (D2.item i _ _ _ hlt2 (D2.over (D2.over st2 hs0 S.zf2) hp1 S.sep1_2) fun x2 p2 tk2 hx2 sn2 hp2 => wpAny_pure ?_)
    replace hp2 : Heap.SameBut i2 p1 p2 := hp2
    refine wpAny_pure (wpAny_pure ?_)
    show wpAny _ _ (newTuple [x1, x2] >>= _) _ _ ⟨p2, g, d, tk2, os⟩
    refine wpAny_bind (wpAny_newTuple ?_)
    have hsz : p2.objs.size = hp.objs.size := by rw [hp2.1, hp1.1, hs0.1]
    have hzz : IsZipX p2 z TI TO x true := hp2.extBut _ _ S.zi2 (hp1.extBut _ _ S.zi1 hz0)
    have hj1 : St1 (i + 1) p2 := D1.over sn1 hp2 S.sep2_1
    have hTO2 : IsTupOf2 p2 TO a1 a2 := hp2.extBut _ _ S.Ti2 (hp1.extBut _ _ S.Ti1 (hs0.extBut _ _ S.TOz hTO))
    refine wpAny_pure ⟨_, rfl, ?_⟩
    show Q (.ref p2.objs.size) _
    rw [hsz]
    refine hQ x1 x2 (p2.push { cls := .type "tuple", data := .seq #[x1, x2] }) tk2 _ _ hx1 hx2 (Heap.get?_push_of_some _ hzz) hx ⟨_, _, Heap.get?_push_of_some _ hTO2⟩ (D1.frame _ _ _ hj1 fun b hb o e => Heap.get?_push_of_some _ e) (D2.frame _ _ _ sn2 fun b hb o e => Heap.get?_push_of_some _ e) ?_ (by rw [Heap.size_push, hsz]) fun c o cz cT c1 c2 e => Heap.get?_push_of_some _ (hp2.extBut _ _ c2 (hp1.extBut _ _ c1 (hs0.extBut _ _ cz e)))
    rw [← hsz]
    exact Heap.get?_push_size _ rfl
/-- zip at its end: the first iterator has ended -/
theorem zipX_end {Q : Fin → Shared → Prop} (S : ZipSep2 z TI TO i1 i2 fp1 fp2) (D1 : Draws prog w A i1 fp1 n1 P1 St1)
    (hz : IsZipX s.heap z TI TO x b) (hx : x = .none ∨ ∃ T : Addr, x = rawInt T) (hTI : IsTupOf2 s.heap TI (.ref i1) (.ref i2)) (st1 : St1 n1 s.heap)
    (hE : ∀ h' e, (∀ c o, c ≠ z → c ≠ i1 → s.heap.get? c = some o → h'.get? c = some o) → (∃ o, h'.get? e = some o ∧ o.cls = .type "StopIteration") → E (.ref e) { s with heap := h' }) :
    wpAny (model prog w) A (Builtin.«zip.__next__» ⟨[.ref z], []⟩) Q E s := by
  obtain ⟨hp, g, d, tk0, os⟩ := s
  show wpAny _ _ (field (.ref z) 2 >>= _) _ _ _
  refine wpAny_bind (wpAny_field hz rfl (x := .bool false) rfl ?_)
  show wpAny _ _ (field (.ref z) 3 >>= _) _ _ _
  refine wpAny_bind (wpAny_field hz rfl (x := .ref TI) rfl ?_)
  refine wpAny_bind (wpAny_seqItems hTI rfl ?_)
  show wpAny _ _ (Builtin.SmallTypes.ownedTupleIsFree (.ref z) >>= _) _ _ _
  refine wpAny_bind (zipX_free hz hx ?_ fun g0 hz0 hs0 => ?_)
  · simp only [if_true]
    refine wpAny_bind (wpAny_rule (wpAny_bind (wpAny_field hz rfl (x := .ref TO) rfl ?_)))
    refine wpAny_bind (wpAny_setField_rec hz (by simp) fun g0 hz0 hs0 => ?_)
    replace hz0 : IsZipX g0 z TI TO .ellipsis b := hz0
    replace hs0 : Heap.SameBut z hp g0 := hs0
    refine wpAny_bind ?_
    simp only [List.zipIdx_cons, List.zipIdx_nil, List.forIn_cons, List.forIn_nil]
    refine wpAny_bind (wpAny_bind (wpAny_onRaise ?_))
    show wpAny _ _ (Builtin.SmallTypes.nextOf (.ref i1) >>= _) _ _ ⟨g0, g, d, tk0, os⟩
    refine wpAny_bind (D1.done ⟨g0, g, d, tk0, os⟩ _ _ (D1.over st1 hs0 S.zf1) fun q e hq he => ?_)
    replace hq : Heap.ExtBut i1 g0 q := hq
    obtain ⟨oe, hoe, hce⟩ := he
    replace hoe : q.get? e = some oe := hoe
    have hzq : IsZipX q z TI TO .ellipsis b := hq _ _ S.zi1 hz0
    have hez : e ≠ z := fun y => by subst y; rw [hzq] at hoe; cases hoe; simp at hce
    refine wpAny_setField_rec (s := ⟨q, g, d, tk0, os⟩) hzq (by simp) fun q' _ hq' => ?_
    replace hq' : Heap.SameBut z q q' := hq'
    exact hE q' e (fun c o cz c1 y => hq'.extBut _ _ cz (hq _ _ c1 (hs0.extBut _ _ cz y))) ⟨oe, hq'.extBut _ _ hez hoe, hce⟩
  · replace hs0 : Heap.SameBut z hp g0 := hs0
    simp only [Bool.false_eq_true, if_false]
    refine wpAny_bind ?_
    rw [← Array.forIn_toList]
    simp only [List.forIn_cons, List.forIn_nil]
    refine wpAny_bind (wpAny_bind (wpAny_holding ?_))
    show wpAny _ _ (Builtin.SmallTypes.nextOf (.ref i1) >>= _) _ _ ⟨g0, g, d, tk0, os⟩
    refine wpAny_bind (D1.done ⟨g0, g, d, tk0, os⟩ _ _ (D1.over st1 hs0 S.zf1) fun q e hq he => ?_)
    replace hq : Heap.ExtBut i1 g0 q := hq
    exact hE q e (fun c o cz c1 y => hq _ _ c1 (hs0.extBut _ _ cz y)) he
end
section
variable {prog : Program} {w : World} {A : Around} {E : Value → Shared → Prop} {s : Shared}
/-- a turn of enumerate, the inner iterator's turn being given -/
theorem enumN_item {e it : Addr} {i : Nat} {old : Value} {Q : Value → Shared → Prop} (he : IsEnum s.heap e it i old)
    (inner : wpAny (model prog w) A (Builtin.SmallTypes.nextOf (.ref it)) (fun x s1 => IsEnum s1.heap e it i old ∧
      ∀ h' tk, IsEnumOut h' e it ((i : Int) + 1) x s1.heap.objs.size → h'.get? s1.heap.objs.size = some { cls := .type "tuple", data := .seq #[.int i tk, x] } →
        (∀ b o, b ≠ e → s1.heap.get? b = some o → h'.get? b = some o) → Q (.ref s1.heap.objs.size) { s1 with heap := h', toks := s1.toks + 1 }) E s) :
    wpAny (model prog w) A (Builtin.«enumerate.__next__» ⟨[.ref e], []⟩) (fun fin s' => ∃ v, fin = .done (.ret v) ∧ Q v s') E s := by
  show wpAny _ _ (field (.ref e) 2 >>= _) _ _ _
  refine wpAny_bind (wpAny_field he rfl (x := .ref it) rfl ?_)
  refine wpAny_bind (wpAny_mono inner (fun x s1 hh => ?_) fun _ _ y => y)
  obtain ⟨he1, hQ⟩ := hh
  obtain ⟨h1, g, d, tk, os⟩ := s1
  show wpAny _ _ (field (.ref e) 3 >>= _) _ _ ⟨h1, g, d, tk, os⟩
  refine wpAny_bind (wpAny_field he1 rfl (x := rawInt i) rfl ?_)
  show wpAny _ _ (field (.ref e) 4 >>= _) _ _ ⟨h1, g, d, tk, os⟩
  refine wpAny_bind (wpAny_field he1 rfl (x := .none) rfl ?_)
  show wpAny _ _ (mkInt i >>= _) _ _ ⟨h1, g, d, tk, os⟩
  refine wpAny_bind (wpAny_mkInt ?_)
  show wpAny _ _ (setField (.ref e) 3 (rawInt ((i : Int) + 1)) >>= _) _ _ ⟨h1, g, d, tk + 1, os⟩
  refine wpAny_bind (wpAny_setField_rec he1 (by simp) fun h2 he2 hs2 => ?_)
  replace hs2 : Heap.SameBut e h1 h2 := hs2
  replace he2 : IsEnum h2 e it ((i : Int) + 1) old := he2
  show wpAny _ _ (setField (.ref e) 4 .none >>= _) _ _ ⟨h2, g, d, tk + 1, os⟩
  refine wpAny_bind (wpAny_setField_rec he2 (by simp) fun h3 he3 hs3 => ?_)
  replace hs3 : Heap.SameBut e h2 h3 := hs3
  replace he3 : IsEnum h3 e it ((i : Int) + 1) old := he3
  show wpAny _ _ (newTuple [.int i tk, x] >>= _) _ _ ⟨h3, g, d, tk + 1, os⟩
  refine wpAny_bind (wpAny_newTuple ?_)
  have hsz : h3.objs.size = h1.objs.size := by rw [hs3.1, hs2.1]
  have hel : e < h1.objs.size := Heap.lt_size he1
  have he4 : IsEnum (h3.push { cls := .type "tuple", data := .seq #[.int i tk, x] }) e it ((i : Int) + 1) old := Heap.get?_push_of_some _ he3
  have ht4 : (h3.push { cls := .type "tuple", data := .seq #[.int i tk, x] }).get? h3.objs.size = some { cls := .type "tuple", data := .seq #[.int i tk, x] } := Heap.get?_push_size _ rfl
  have hk4 : ∀ b o, b ≠ e → h1.get? b = some o → (h3.push { cls := .type "tuple", data := .seq #[.int i tk, x] }).get? b = some o := fun b o hbe hb =>
    Heap.get?_push_of_some _ (hs3.extBut b o hbe (hs2.extBut b o hbe hb))
  generalize h3.push { cls := .type "tuple", data := .seq #[.int i tk, x] } = h4 at he4 ht4 hk4
  show wpAny _ _ (Builtin.SmallTypes.ownedTupleIsFree (.ref e) >>= _) _ _ ⟨h4, g, d, tk + 1, os⟩
  rw [hsz] at ht4 ⊢
  refine wpAny_bind ?_
  unfold Builtin.SmallTypes.ownedTupleIsFree
  refine wpAny_bind (wpAny_field he4 rfl (x := .none) rfl (wpAny_pure ?_))
  simp only [if_true]
  refine wpAny_bind (wpAny_rule (wpAny_bind (wpAny_field he4 rfl (x := old) rfl ?_)))
  refine wpAny_bind (wpAny_setField_rec he4 (by simp) fun h5 he5 hs5 => ?_)
  replace hs5 : Heap.SameBut e h4 h5 := hs5
  replace he5 : IsEnum h5 e it ((i : Int) + 1) x := he5
  show wpAny _ _ (Builtin.SmallTypes.ownedTupleHandOut (.ref e) (.ref h1.objs.size) >>= _) _ _ ⟨h5, g, d, tk + 1, os⟩
  refine wpAny_bind ?_
  unfold Builtin.SmallTypes.ownedTupleHandOut
  refine wpAny_bind (wpAny_setField_rec he5 (by simp) fun h6 he6 hs6 => ?_)
  replace hs6 : Heap.SameBut e h5 h6 := hs6
  replace he6 : IsEnumOut h6 e it ((i : Int) + 1) x h1.objs.size := he6
  refine wpAny_setField_rec he6 (by simp) fun h7 he7 hs7 => ?_
  replace hs7 : Heap.SameBut e h6 h7 := hs7
  replace he7 : IsEnumOut h7 e it ((i : Int) + 1) x h1.objs.size := he7
  refine wpAny_bind (wpAny_letGo (wpAny_pure ⟨_, rfl, hQ h7 tk he7 ?_ ?_⟩))
  · exact hs7.extBut _ _ (Nat.ne_of_gt hel) (hs6.extBut _ _ (Nat.ne_of_gt hel) (hs5.extBut _ _ (Nat.ne_of_gt hel) ht4))
  · exact fun b o hbe hb => hs7.extBut b o hbe (hs6.extBut b o hbe (hs5.extBut b o hbe (hk4 b o hbe hb)))
theorem nextOf_zip {z TI TO : Addr} {x : Value} {b : Bool} {Q : Value → Shared → Prop} (hz : IsZipX s.heap z TI TO x b)
    (h : wpAny (model prog w) A.in1 (Builtin.«zip.__next__» ⟨[.ref z], []⟩) (fun fin s' => ∃ v, fin = .done (.ret v) ∧ Q v s') E s) : wpAny (model prog w) A (Builtin.SmallTypes.nextOf (.ref z)) Q E s := by
  have hT : s.TypeIs (.ref z) "zip" := ⟨_, hz, rfl⟩
  unfold Builtin.SmallTypes.nextOf
  refine wpAny_bind (wpAny_callSpecial?_slot (name := Str.ofString "__next__") hT F.slot_zip_next
    (wpAny_call_entry F.slot_zip_next hT F.entry_zip_next ?_ (F.args_zip_next_1 _)))
  refine wpAny_mono h (fun fin s' ⟨v, e, q⟩ => ?_) fun _ _ y => y
  subst e
  exact ⟨v, rfl, wpAny_pure q⟩
theorem next_enum {e it : Addr} {i : Int} {old : Value} {Q : Option Value → Shared → Prop} (he : IsEnum s.heap e it i old)
    (h : ∀ E' : Value → Shared → Prop, wpAny (model prog w) A.in1 (Builtin.«enumerate.__next__» ⟨[.ref e], []⟩) (fun fin s' => ∃ v, fin = .done (.ret v) ∧ Q (some v) s') E' s) : wpAny (model prog w) A (pyNext (.ref e)) Q E s := by
  have hT : s.TypeIs (.ref e) "enumerate" := ⟨_, he, rfl⟩
  unfold pyNext
  refine wpAny_bind (wpAny_attempt (wpAny_callSpecial?_slot (name := Str.ofString "__next__") hT F.slot_enumerate_next
    (wpAny_call_entry F.slot_enumerate_next hT F.entry_enumerate_next ?_ (F.args_enumerate_next_1 _))))
  refine wpAny_mono (h _) (fun fin s' ⟨v, e, q⟩ => ?_) fun _ _ y => y
  subst e
  exact ⟨v, rfl, wpAny_pure q⟩
theorem next_enum_zip_end {e z TI TO i1 i2 : Addr} {i : Int} {old x : Value} {b : Bool} {fp1 fp2 : List Addr} {n1 : Nat} {P1 : Nat → Value → Prop} {St1 : Nat → Heap → Prop} {Q : Option Value → Shared → Prop} (he : IsEnum s.heap e z i old)
    (S : ZipSep2 z TI TO i1 i2 fp1 fp2) (D1 : ∀ A' : Around, A'.handled = none → Draws prog w A' i1 fp1 n1 P1 St1) (hh : A.handled = none) (hz : IsZipX s.heap z TI TO x b) (hx : x = .none ∨ ∃ T : Addr, x = rawInt T) (hTI : IsTupOf2 s.heap TI (.ref i1) (.ref i2)) (st1 : St1 n1 s.heap)
    (hQ : ∀ h', (∀ c o, c ≠ z → c ≠ i1 → s.heap.get? c = some o → h'.get? c = some o) → Q none { s with heap := h' }) : wpAny (model prog w) A (pyNext (.ref e)) Q E s := by
  have hT : s.TypeIs (.ref e) "enumerate" := ⟨_, he, rfl⟩
  have hTz : s.TypeIs (.ref z) "zip" := ⟨_, hz, rfl⟩
  unfold pyNext
  refine wpAny_bind (wpAny_attempt (wpAny_callSpecial?_slot (name := Str.ofString "__next__") hT F.slot_enumerate_next
    (wpAny_call_entry F.slot_enumerate_next hT F.entry_enumerate_next ?_ (F.args_enumerate_next_1 _))))
  show wpAny _ _ (field (.ref e) 2 >>= _) _ _ _
  refine wpAny_bind (wpAny_field he rfl (x := .ref z) rfl ?_)
  unfold Builtin.SmallTypes.nextOf
  refine wpAny_bind (wpAny_bind (wpAny_callSpecial?_slot (name := Str.ofString "__next__") hTz F.slot_zip_next
    (wpAny_call_entry F.slot_zip_next hTz F.entry_zip_next ?_ (F.args_zip_next_1 _))))
  refine zipX_end S (D1 _ hh) hz hx hTI st1 fun h' x' he' hx' => ?_
  obtain ⟨o, ho, hc⟩ := hx'
  refine wpAny_bind (wpAny_isInstance (T := "StopIteration") (b := true) ⟨o, ho, hc⟩ isSubtype_stop ?_)
  exact wpAny_pure (hQ _ he')
end
/-- enumerate(zip(a, b)), a and b tuples: the items in new pairs, each in a new pair with its place -/
def IteZ (K : PySem.W.Frag) (a b : Addr) : It where
  go := fun i H => ∃ (xs ys : List V) (x y : V), SqT K H a xs ∧ SqT K H b ys ∧ xs[i]? = some x ∧ ys[i]? = some y
  yld := fun i H v H' => ∃ (T2 T3 : Addr) (x y : V), v = .ref T3 ∧ H T2 = none ∧ upd H T2 (.tup [x, y]) T3 = none ∧ H' = upd (upd H T2 (.tup [x, y])) T3 (.tup [.int (i : Nat), .ref T2]) ∧ (∀ xs, SqT K H a xs → xs[i]? = some x) ∧ ∀ ys, SqT K H b ys → ys[i]? = some y
  stop := fun i H => ∃ xs : List V, SqT K H a xs ∧ xs.length = i
theorem turnEnumZ {P : Program} {w : World} {K : PySem.W.Frag} {elts : List Expr} {kk : Nat} {tpos : Pos} {a b e z TI TO i1 i2 : Addr} (S : ZipSep2 z TI TO i1 i2 [i1, a] [i2, b]) (ha : a ≠ i1) (hb : b ≠ i2) (ez : e ≠ z) (eI : e ≠ TI) (eO : e ≠ TO) (e1 : e ≠ i1) (e2 : e ≠ i2) :
    Turn P w K (.Tuple elts kk tpos) (IteZ K a b) [e, z, TI, TO, i1, i2] e fun i h => (∃ old, IsEnum h e z ((i : Nat) : Int) old) ∧ (∃ x bb, IsZipX h z TI TO x bb ∧ (x = .none ∨ ∃ T : Addr, x = rawInt T)) ∧ IsTupOf2 h TI (.ref i1) (.ref i2) ∧ (∃ a1 a2, IsTupOf2 h TO a1 a2) ∧ h.IsTupleIter i1 a i ∧ h.IsTupleIter i2 b i where
  mem := List.mem_cons_self
  obj := by
    rintro i h ⟨⟨old, he⟩, ⟨x, bb, hz, _⟩, hTI, ⟨a1, a2, hTO⟩, ⟨o1, g1, _, d1⟩, ⟨o2, g2, _, d2⟩⟩ c hc
    have e' : c = e ∨ c = z ∨ c = TI ∨ c = TO ∨ c = i1 ∨ c = i2 := by simpa using hc
    rcases e' with q | q | q | q | q | q
    · rw [q]; exact ⟨_, he, fun v q => nomatch q⟩
    · rw [q]; exact ⟨_, hz, fun v q => nomatch q⟩
    · rw [q]; exact ⟨_, hTI, fun v q => nomatch q⟩
    · rw [q]; exact ⟨_, hTO, fun v q => nomatch q⟩
    · rw [q]; exact ⟨o1, g1, fun v q => by rw [d1] at q; cases q⟩
    · rw [q]; exact ⟨o2, g2, fun v q => by rw [d2] at q; cases q⟩
  keep := by
    rintro i h h' ⟨⟨old, he⟩, ⟨x, bb, hz, hx⟩, hTI, ⟨a1, a2, hTO⟩, h1, h2⟩ k
    exact ⟨⟨old, k e (by simp) _ he⟩, ⟨x, bb, k z (by simp) _ hz, hx⟩, k TI (by simp) _ hTI, ⟨a1, a2, k TO (by simp) _ hTO⟩, h1.at fun o q => k i1 (by simp) o q, h2.at fun o q => k i2 (by simp) o q⟩
  item := by
    intro X hP hw hK hc i pins s σ H E I hf ⟨⟨old, he⟩, ⟨x0, bb, hz, hx0⟩, hTI, ⟨a1, a2, hTO⟩, h1, h2⟩ ⟨xs, ys, x, y, hqx, hqy, hx, hy⟩
    subst hP hw hK
    obtain ⟨its, rv, p, _⟩ := I.tuple hqx
    obtain ⟨its2, rv2, p2, _⟩ := I.tuple hqy
    obtain ⟨u, hu, ru⟩ := rv.get hx
    obtain ⟨u2, hu2, ru2⟩ := rv2.get hy
    have lt1 : i < its.toArray.size := by rw [List.size_toArray]; exact (List.getElem?_eq_some_iff.mp hu).1
    have lt2 : i < its2.toArray.size := by rw [List.size_toArray]; exact (List.getElem?_eq_some_iff.mp hu2).1
    have hh : X.A.in1.in1.handled = none := I.ok.hd hc
    have hel := Heap.lt_size he
    refine next_enum he fun E' => enumN_item he (nextOf_zip hz (zipX_item S (Draws.tuple hh i1 a ha its.toArray) (Draws.tuple hh i2 b hb its2.toArray) hz hx0 hTI hTO ⟨h1, p⟩ ⟨h2, p2⟩ lt1 lt2 fun v1 v2 g1 tk x' b' hv1 hv2 hz' hx' hTO' s1' s2' hT hsz hk => ⟨?_, fun h' tk2 ho hT3 hk2 => ⟨_, rfl, wpAny_letOwnedTupleGo_enum ho fun h'' he'' sb => ?_⟩⟩))
    · exact hk _ _ ez eO e1 e2 he
    · have q1 : v1 = u := by
        have : its[i]? = some v1 := by simpa using hv1
        rw [hu] at this
        exact (Option.some.inj this).symm
      have q2 : v2 = u2 := by
        have : its2[i]? = some v2 := by simpa using hv2
        rw [hu2] at this
        exact (Option.some.inj this).symm
      subst q1 q2
      have hf1 : ∀ c ∈ [z, TI, TO, i1, i2], FpOk X pins H c := fun c hc => hf c (List.mem_cons_of_mem _ hc)
      have frT : H s.heap.objs.size = none := I.hok.fresh (Nat.le_refl _)
      have hlt : ∀ c ∈ [e, z, TI, TO, i1, i2], c < s.heap.objs.size := fun c hc => by
        have e' : c = e ∨ c = z ∨ c = TI ∨ c = TO ∨ c = i1 ∨ c = i2 := by simpa using hc
        rcases e' with q | q | q | q | q | q
        · rw [q]; exact hel
        · rw [q]; exact Heap.lt_size hz
        · rw [q]; exact Heap.lt_size hTI
        · rw [q]; exact Heap.lt_size hTO
        · rw [q]; obtain ⟨_, w1, _⟩ := h1; exact Heap.lt_size w1
        · rw [q]; obtain ⟨_, w1, _⟩ := h2; exact Heap.lt_size w1
      have I1 : Inv X pins σ (upd H s.heap.objs.size (.tup [x, y])) { s with heap := g1, toks := tk } :=
        I.turnedNew (t' := tk) (ch := [z, TI, TO, i1, i2]) (fun c o hb q => hk c o (fun q' => hb (by simp [q'])) (fun q' => hb (by simp [q'])) (fun q' => hb (by simp [q'])) (fun q' => hb (by simp [q'])) q) hf1 (Nat.le_refl _)
          ⟨by show 2 ≤ sizeLine; decide, [v1, v2], .cons ru (.cons ru2 .nil), ⟨_, hT, rfl, _, rfl⟩⟩
      have heg : e < g1.objs.size := by rw [hsz]; exact Nat.lt_succ_of_lt hel
      have fe : FpOk X pins (upd H s.heap.objs.size (.tup [x, y])) e := by
        obtain ⟨f0, f1⟩ := hf e List.mem_cons_self
        exact ⟨by rw [upd_ne (Nat.ne_of_lt hel)]; exact f0, f1⟩
      have hT3' : h''.get? g1.objs.size = some { cls := .type "tuple", data := .seq #[.int i tk2, .ref s.heap.objs.size] } := (sb.2 _ (Nat.ne_of_gt heg)).trans hT3
      have I2 : Inv X pins σ (upd (upd H s.heap.objs.size (.tup [x, y])) g1.objs.size (.tup [.int (i : Nat), .ref s.heap.objs.size])) { s with heap := h'', toks := tk + 1 } :=
        I1.turnedNew (t' := tk + 1) (ch := [e]) (fun c o hb q => (sb.2 c fun q' => hb (by simp [q'])).trans (hk2 c o (fun q' => hb (by simp [q'])) q)) (fun c hc => by cases List.mem_singleton.mp hc; exact fe) (Nat.le_refl _)
          ⟨by show 2 ≤ sizeLine; decide, [.int i tk2, .ref s.heap.objs.size], .cons ⟨_, rfl⟩ (.cons rfl .nil), ⟨_, hT3', rfl, _, rfl⟩⟩
      have up2 : ∀ c o, c ≠ e → g1.get? c = some o → h''.get? c = some o := fun c o ce q => (sb.2 c ce).trans (hk2 c o ce q)
      refine ⟨.ref g1.objs.size, _, I2, rfl, ⟨_, _, x, y, rfl, frT, I1.hok.fresh (Nat.le_refl _), rfl, fun l hl => by rw [I.tuple_inj hl hqx]; exact hx, fun l hl => by rw [I.tuple_inj hl hqy]; exact hy⟩, ⟨⟨.ref s.heap.objs.size, ?_⟩, ⟨x', b', up2 _ _ ez.symm hz', hx'⟩, ?_, ?_, s1'.1.at fun o q => up2 _ o e1.symm q, s2'.1.at fun o q => up2 _ o e2.symm q⟩, fun c hc => ?_⟩
      · have w1 : ((i + 1 : Nat) : Int) = (i : Int) + 1 := by omega
        rw [w1]; exact he''
      · exact up2 _ _ eI.symm (hk _ _ S.TIz S.TITO S.TIi1 S.TIi2 hTI)
      · obtain ⟨c1, c2, q⟩ := hTO'
        exact ⟨c1, c2, up2 _ _ eO.symm q⟩
      · have lc := hlt c hc
        have lg : c ≠ g1.objs.size := by rw [hsz]; exact Nat.ne_of_lt (Nat.lt_succ_of_lt lc)
        rw [upd_ne lg, upd_ne (Nat.ne_of_lt lc)]
        exact (hf c hc).1
  done := by
    intro X hP hw hK hc i pins s σ H E I hf ⟨⟨old, he⟩, ⟨x0, bb, hz, hx0⟩, hTI, ⟨a1, a2, hTO⟩, h1, h2⟩ ⟨xs, hqx, hx⟩
    subst hP hw hK
    obtain ⟨its, rv, p, _⟩ := I.tuple hqx
    have hl : its.toArray.size = i := by rw [List.size_toArray, ← rv.length]; exact hx
    refine next_enum_zip_end (n1 := its.toArray.size) he S (fun A' hh' => Draws.tuple hh' i1 a ha its.toArray) (I.ok.hd hc) hz hx0 hTI ⟨by rw [hl]; exact h1, p⟩ fun h' hk => ⟨rfl, I.turnedL (t' := s.toks) (ch := [e, z, TI, TO, i1, i2]) (fun c o hb q => hk c o (fun q' => hb (by simp [q'])) (fun q' => hb (by simp [q'])) q) hf⟩
  self := fun A i s Q E ⟨⟨_, he⟩, _⟩ h => wpAny_pyIter_enum he h
theorem meetsEnumZ {z TI TO : Addr} {f0 : Value} :
    Meets (Builtin.«enumerate.__new__» ⟨[.type "enumerate", .ref z], []⟩) fun _ R s => IsZip s.heap z TI TO f0 ∧
      R (.ok (.ret (.ref s.heap.objs.size))) { s with heap := s.heap.push { cls := .type "enumerate", data := .fields #[.none, .bool false, .ref z, rawInt 0, .none, .none] } } :=
  .of_wp fun prog w A R s h => by
    obtain ⟨hp, g, d, tk, os⟩ := s
    obtain ⟨hl, h⟩ := h
    have q1 : ∀ {A' : Around} {E Q : Value → Shared → Prop}, Q (.ref z) ⟨hp, g, d, tk, os⟩ → wpAny (model prog w) A' (pyIter (.ref z)) Q E ⟨hp, g, d, tk, os⟩ := fun q => wpAny_pyIter_zip hl q
    have hsub := sub_enumerate
    wp_walk using q1
    refine wpAny_stack_any fun st => wpAny_pure ?_
    split
    · rename_i c _ _ _ _ _
      cases (c == Value.type "enumerate") <;> (wp_walk using q1; exact ⟨_, rfl, h⟩)
    · wp_walk using q1
      exact ⟨_, rfl, h⟩
theorem callEnumZ {prog : Program} {w : World} {A : Around} {E : Value → Shared → Prop} {s : Shared} {z TI TO : Addr} {f0 : Value} {Q : Value → Shared → Prop} (hz : IsZip s.heap z TI TO f0)
    (h : ∀ h', IsEnum h' s.heap.objs.size z 0 .none → (∀ b o, s.heap.get? b = some o → h'.get? b = some o) → Q (.ref s.heap.objs.size) { s with heap := h' }) :
    wpAny (model prog w) A (call (.type "enumerate") [.ref z]) Q E s := by
  refine callType_new F.called_enumerate (by decide) (F.typeCall_enumerate_1 _) (F.newCall_enumerate_1 _) (fun obj => F.args_object_init_2 obj _) F.entry_enumerate_new meetsEnumZ ⟨hz, ?_⟩
  have he : IsEnum (s.heap.push { cls := .type "enumerate", data := .fields #[.none, .bool false, .ref z, rawInt 0, .none, .none] }) s.heap.objs.size z 0 .none := Heap.get?_push_size _ rfl
  exact ⟨⟨_, he, rfl⟩, h _ he fun b o x => Heap.get?_push_of_some _ x⟩
def iEnumZ (K : PySem.W.Frag) (ta : TA) : TI := fun σ H R => ta σ H fun vs H1 => ∃ a b xs ys, vs = [.ref a, .ref b] ∧ SqT K H1 a xs ∧ SqT K H1 b ys ∧ R (IteZ K a b) H1
theorem pi_enumZ {X : Cx} {e e2 : Expr} {ta : TA} {p pos p2 pos2 tpos : Pos} {elts : List Expr} {kk : Nat} (hg : Gl X "enumerate") (hm : X.mg "enumerate" = none) (hg2 : Gl X "zip") (hm2 : X.mg "zip" = none) (ha : PA X [e, e2] ta)
    (hs : starEach [e, e2] X.env = (false, eval e X.env) :: starEach [e2] X.env := by rfl) (hpl : (backTo pos2 (starEach [e2] X.env)).any (·.1) = false := by rfl) :
    PI X (.Tuple elts kk tpos) (.Call (.Name "enumerate" p) [.Call (.Name "zip" p2) [e, e2] [] pos2] [] pos) (iEnumZ X.K ta) := by
  refine ⟨fun pins s σ H R I h => ?_⟩
  refine Call_ (ld_blt I hg hm boot_enumerate (PyProof.Rows.callWith_type1 (PyProof.Rows.args_cons ?_ rfl) rfl rfl))
  refine Call_ (ld_blt I hg2 hm2 PyProof.Rows.boot_zip (PyProof.Rows.callWith_type1 (thn (ha.run pos2 pins s σ H _ I h) fun us s1 ⟨vs, H1, I1, r1, q1⟩ => ?_) hs hpl))
  obtain ⟨a, b, xs, ys, ex, hqx, hqy, q⟩ := q1
  subst ex
  cases r1 with
  | cons r rr =>
    cases rr with
    | cons r' rr =>
      cases rr
      cases r
      cases r'
      obtain ⟨its, rv, p1, _⟩ := I1.tuple hqx
      obtain ⟨its2, rv2, p3, _⟩ := I1.tuple hqy
      have la : a < s1.heap.objs.size := let ⟨_, w, _⟩ := p1; Heap.lt_size w
      have lb : b < s1.heap.objs.size := let ⟨_, w, _⟩ := p3; Heap.lt_size w
      refine RZ.call_zipT (show s1.heap.IsTuple a its.toArray from p1) (show s1.heap.IsTuple b its2.toArray from p3) fun h' hz hTI hTO h1 h2 hsz hk => PyProof.Rows.args_nil ?_
      refine callEnumZ (s := { s1 with heap := h' }) hz fun h'' he hk2 => wpAny_pyIter_enum he ?_
      have e5 : h'.objs.size = s1.heap.objs.size + 5 := hsz
      have I2 : Inv _ pins σ H1 { s1 with heap := h'' } := I1.kept (t' := s1.toks) fun c o q => hk2 c o (hk c o q)
      have fresh : ∀ c ∈ [h'.objs.size, s1.heap.objs.size + 4, s1.heap.objs.size + 2, s1.heap.objs.size + 3, s1.heap.objs.size, s1.heap.objs.size + 1], FpOk _ pins H1 c := fun c hc => by
        have e' : c = h'.objs.size ∨ c = s1.heap.objs.size + 4 ∨ c = s1.heap.objs.size + 2 ∨ c = s1.heap.objs.size + 3 ∨ c = s1.heap.objs.size ∨ c = s1.heap.objs.size + 1 := by simpa using hc
        have hle : s1.heap.objs.size ≤ c := by
          rcases e' with z | z | z | z | z | z
          · rw [z, e5]; exact Nat.le_add_right _ _
          · rw [z]; exact Nat.le_add_right _ _
          · rw [z]; exact Nat.le_add_right _ _
          · rw [z]; exact Nat.le_add_right _ _
          · rw [z]; exact Nat.le_refl _
          · rw [z]; exact Nat.le_add_right _ _
        exact I1.fpOk hle (I1.hok.fresh hle)
      have ne : ∀ k : Nat, k < 5 → h'.objs.size ≠ s1.heap.objs.size + k := fun k hk' q => by
        have : s1.heap.objs.size + 5 = s1.heap.objs.size + k := e5.symm.trans q
        omega
      refine ⟨h'.objs.size, [h'.objs.size, s1.heap.objs.size + 4, s1.heap.objs.size + 2, s1.heap.objs.size + 3, s1.heap.objs.size, s1.heap.objs.size + 1], _, _, H1, rfl, I2,
        turnEnumZ (zip_sep2 (N := s1.heap.objs.size) (fp1 := [a]) (fp2 := [b]) (fun c hc => by cases List.mem_singleton.mp hc; exact la) (fun c hc => by cases List.mem_singleton.mp hc; exact lb)) (Nat.ne_of_lt la) (Nat.ne_of_lt (Nat.lt_succ_of_lt lb)) (ne 4 (by decide)) (ne 2 (by decide)) (ne 3 (by decide)) (ne 0 (by decide)) (ne 1 (by decide)),
        ⟨⟨_, he⟩, ⟨_, _, hk2 _ _ hz, .inl rfl⟩, hk2 _ _ hTI, ⟨_, _, hk2 _ _ hTO⟩, h1.at fun o q => hk2 _ o q, h2.at fun o q => hk2 _ o q⟩, fresh, q⟩
theorem walk_enumZ {K : PySem.W.Frag} {a b : Addr} {xs ys : List V} (hl : xs.length = ys.length) : Walk (IteZ K a b) xs.length (fun H => SqT K H a xs ∧ SqT K H b ys)
    fun i H v H' => ∃ (T2 T3 : Addr) (x y : V), v = .ref T3 ∧ H T2 = none ∧ upd H T2 (.tup [x, y]) T3 = none ∧ H' = upd (upd H T2 (.tup [x, y])) T3 (.tup [.int (i : Nat), .ref T2]) ∧ xs[i]? = some x ∧ ys[i]? = some y where
  goes := fun i _ hi w => ⟨xs, ys, xs[i], ys[i]'(by omega), w.1, w.2, List.getElem?_eq_getElem hi, List.getElem?_eq_getElem (by omega)⟩
  stops := fun _ w => ⟨xs, w.1, rfl⟩
  yields := fun i H v H' _ w ⟨T2, T3, x, y, h1, h2, h3, h4, h5, h6⟩ => ⟨T2, T3, x, y, h1, h2, h3, h4, h5 xs w.1, h6 ys w.2⟩
section
variable {c : Ct} {Γ : List (Option Rs)} {tr : TA}
def ezI (p : (Int × Int) × Nat) : Im := .t [.d (.int ((p.2 : Nat) : Int)), .t [.d (.int p.1.1), .d (.int p.1.2)]]
/-- enumerate(zip(ns, ms)) -/
theorem i_enumZ {ns ms : List Int} (hl : ns.length = ms.length) (h : EvA c tr Γ true [.tuple (ns.map .int), .tuple (ms.map .int)]) : EvI c (iEnumZ c.K tr) Γ true ((ns.zip ms).zipIdx.map ezI) := fun H0 O H σ e R q =>
  h H0 O H σ e _ fun vs H1 r s => by
    obtain ⟨x, y, rfl, b1, b2⟩ := (BoAll.vm s).two
    obtain ⟨p, xs, rfl, sl, al⟩ := b1.tup'
    obtain ⟨p2, ys, rfl, sl2, al2⟩ := b2.tup'
    have := al.ints
    subst this
    have := al2.ints
    subst this
    refine ⟨p, p2, _, _, rfl, (sqT_same mns_same sl).sq, (sqT_same mns_same sl2).sq, q _ H1 r ⟨(e.on r).j, ?_⟩⟩
    have el : ((ns.zip ms).zipIdx.map ezI).length = (ns.map V.int).length := by simp; omega
    rw [el]
    refine (walk_enumZ (by simpa using hl)).mono (fun H h => ⟨(h.tup (e.on r).j sl).sq, (h.tup (e.on r).j sl2).sq⟩) fun i H v H' hi g w => ?_
    obtain ⟨T2, T3, x, y, rfl, hT2, hT3, rfl, hx, hy⟩ := w
    have hi' : i < ns.length := by simpa using hi
    have hi2 : i < ms.length := by omega
    have ex : x = .int ns[i] := by simpa [hi'] using hx.symm
    have ey : y = .int ms[i] := by simpa [hi2] using hy.symm
    subst ex ey
    have sm1 : Same H (upd H T2 (.tup [.int ns[i], .int ms[i]])) := fun b o z => by rw [upd_ne (ne_of_none z hT2)]; exact z
    have sm2 : Same (upd H T2 (.tup [.int ns[i], .int ms[i]])) (upd (upd H T2 (.tup [.int ns[i], .int ms[i]])) T3 (.tup [.int (i : Nat), .ref T2])) := fun b o z => by rw [upd_ne (ne_of_none z hT3)]; exact z
    refine ⟨fun b o z => sm2 _ _ (sm1 _ _ z), ezI ((ns[i], ms[i]), i), ?_, .tup (.inl (.inl upd_same)) (.cons (.leaf (.inl ⟨rfl, .int _⟩)) (.cons (.tup (.inl (.inl (sm2 _ _ upd_same))) (.cons (.leaf (.inl ⟨rfl, .int _⟩)) (.cons (.leaf (.inl ⟨rfl, .int _⟩)) .nil))) .nil))⟩
    have ez : (ns.zip ms)[i]? = some (ns[i], ms[i]) := by rw [List.getElem?_zip_eq_some]; exact ⟨List.getElem?_eq_getElem hi', List.getElem?_eq_getElem hi2⟩
    rw [List.getElem?_map, List.getElem?_zipIdx, ez]
    simp
end
section
variable {X : Cx} {K : PySem.W.Frag} (hK : X.K = K)
include hK
theorem k_enumZ {e e2 : Expr} {ta : TA} {p pos p2 pos2 tpos : Pos} {elts : List Expr} {kk : Nat} (hg : Gl X "enumerate") (hm : X.mg "enumerate" = none) (hg2 : Gl X "zip") (hm2 : X.mg "zip" = none) (ha : PA X [e, e2] ta)
    (hs : starEach [e, e2] X.env = (false, eval e X.env) :: starEach [e2] X.env := by rfl) (hpl : (backTo pos2 (starEach [e2] X.env)).any (·.1) = false := by rfl) :
    PI X (.Tuple elts kk tpos) (.Call (.Name "enumerate" p) [.Call (.Name "zip" p2) [e, e2] [] pos2] [] pos) (iEnumZ K ta) := hK ▸ pi_enumZ hg hm hg2 hm2 ha hs hpl
end
end Lm

/-! pairs of assignments, moves, renaming and rearranging -/
namespace Lm
open PySem PySem.Spec PyProof.Rows L2
def isAsgB (x : PyData) (v b : Int) : Bool := areInts x 0 (v - 1) && decide ((lenT x : Int) = b)
theorem Asg.isAsg {ns : List Int} {v b : Int} (h : Asg ns v) (hb : (ns.length : Int) = b) : isAsgB (.tuple (ns.map .int)) v b = true := by
  unfold isAsgB
  rw [areInts_of fun n hn => ⟨(h.rng n hn).1, by have := (h.rng n hn).2; omega⟩, lenT_ints, hb]
  simp
def sp_is_assignment (K : PySem.W.Frag) : Sp := spD K fun ds k d => ∃ x v b, ds = [x, .int v, .int b] ∧ SmallT x ∧ k = .v ∧ d = .bool (isAsgB x v b)
def sp_check_pair (K : PySem.W.Frag) : Sp := spD K fun ds k d => ∃ (ns ms : List Int), ds = [.tuple (ns.map .int), .tuple (ms.map .int)] ∧ Asg ns 5 ∧ Asg ms 5 ∧ ns.length = ms.length ∧ k = .v ∧ d = .none
abbrev mvT (p : (Int × Int) × Nat) : PyData := .tuple [.int (p.2 : Nat), .int p.1.1, .int p.1.2]
def movesD (ns ms : List Int) : List PyData := ((ns.zip ms).zipIdx.filter fun p => !decide (p.1.1 = p.1.2)).map mvT
def sp_moves (K : PySem.W.Frag) : Sp := spD K fun ds k d => ∃ (ns ms : List Int), ds = [.tuple (ns.map .int), .tuple (ms.map .int)] ∧ Asg ns 5 ∧ Asg ms 5 ∧ ns.length = ms.length ∧ k = .o ∧ d = .list (movesD ns ms)
def ne1 (a b : Int) : Int := if a = b then 0 else 1
def sp_churn (K : PySem.W.Frag) : Sp := spD K fun ds k d => ∃ (ns ms : List Int), ds = [.tuple (ns.map .int), .tuple (ms.map .int)] ∧ Asg ns 5 ∧ Asg ms 5 ∧ ns.length = ms.length ∧ k = .v ∧ d = .int (zs ne1 ns ms)
theorem moves_zs : ∀ (ns ms : List Int) (n : Nat), ns.length = ms.length → (((((ns.zip ms).zipIdx n).filter fun p => !decide (p.1.1 = p.1.2)).length : Nat) : Int) = zs ne1 ns ms
  | [], [], _, _ => rfl
  | a :: ns, b :: ms, n, h => by
    have ih := moves_zs ns ms (n + 1) (by simpa using h)
    rw [zs_cons, ← ih, List.zip_cons_cons, List.zipIdx_cons, List.filter_cons]
    by_cases q : a = b
    · simp [q, ne1]
    · simp [q, ne1]
      omega
  | [], _ :: _, _, h => by simp at h
  | _ :: _, [], _, h => by simp at h
theorem movesD_len {ns ms : List Int} (h : ns.length = ms.length) : ((movesD ns ms).length : Int) = zs ne1 ns ms := by
  unfold movesD
  rw [List.length_map]
  exact moves_zs ns ms 0 h
def renI (ns os : List Int) : List Int := ns.map fun i => os.getD i.toNat 0
def sp_renamed (K : PySem.W.Frag) : Sp := spD K fun ds k d => ∃ (ns os : List Int), ds = [.tuple (ns.map .int), .tuple (os.map .int)] ∧ Asg ns 5 ∧ IsOrd os 5 ∧ k = .v ∧ d = .tuple ((renI ns os).map .int)
def sp_rearranged (K : PySem.W.Frag) : Sp := spD K fun ds k d => ∃ (ns os : List Int), ds = [.tuple (ns.map .int), .tuple (os.map .int)] ∧ Asg ns 5 ∧ IsOrd os ns.length ∧ k = .v ∧ d = .tuple ((placedI ns os).map .int)
def backI (os : List Int) : List Int := (upI 0 os.length).map fun i => (os.idxOf i : Int)
def sp__law_back (K : PySem.W.Frag) : Sp := spD K fun ds k d => ∃ (os : List Int) (m : Int), ds = [.tuple (os.map .int)] ∧ IsOrd os m ∧ m ≤ 1000 ∧ k = .v ∧ d = .tuple ((backI os).map .int)
variable {ns ms os : List Int} {v m b : Int}
theorem placedI_len : (placedI ns os).length = os.length := by simp [placedI, upI]
theorem placedI_perm (o : IsOrd os m) (h : os.length = ns.length) : (placedI ns os).Perm ns := by
  have e : os.map (fun i => ns.getD (os.idxOf i) 0) = ns := by
    apply List.ext_getElem
    · simpa using h
    · intro j h1 h2
      have hj : j < os.length := by simpa using h1
      simp only [List.getElem_map]
      rw [o.idxOf_get hj, gd_lt h2]
  have := o.perm.map fun i => ns.getD (os.idxOf i) 0
  rw [e] at this
  exact this
theorem Asg.placed (h : Asg ns v) (o : IsOrd os ns.length) : Asg (placedI ns os) v := by
  have hl : os.length = ns.length := by have := o.len; omega
  refine ⟨by rw [placedI_len, hl]; exact h.len, fun n hn => h.rng n ((placedI_perm o hl).mem_iff.mp hn)⟩
theorem Asg.ren (h : Asg ns 5) (o : IsOrd os 5) : Asg (renI ns os) 5 := by
  refine ⟨by simpa [renI] using h.len, fun n hn => ?_⟩
  obtain ⟨i, hi, rfl⟩ := List.mem_map.mp hn
  have := h.rng i hi
  have := o.len
  exact o.rng _ (gd_mem (by omega))
theorem backI_len : (backI os).length = os.length := by simp [backI, upI]
theorem backI_get (o : IsOrd os m) {i : Nat} (h : i < os.length) : (backI os).getD i 0 = (os.idxOf (i : Int) : Int) := by
  unfold backI
  rw [List.getD_eq_getElem?_getD]
  simp [upI, h]
theorem IsOrd.back (o : IsOrd os m) : IsOrd (backI os) m := by
  have hl := o.len
  refine ⟨by rw [backI_len]; exact hl, ?_, fun n hn => ?_⟩
  · unfold backI
    rw [List.nodup_iff_pairwise_ne, List.pairwise_map]
    refine List.Pairwise.imp_of_mem ?_ (List.nodup_iff_pairwise_ne.mp (nodup_upI os.length))
    intro a c ha hc hne e
    have a1 := mem_upI.mp ha
    have c1 := mem_upI.mp hc
    obtain ⟨_, ga, _⟩ := o.idx (i := a) a1.1 (by omega)
    obtain ⟨_, gc, _⟩ := o.idx (i := c) c1.1 (by omega)
    have e' : os.idxOf a = os.idxOf c := by omega
    rw [e', gc] at ga
    exact hne (Option.some.inj ga).symm
  · obtain ⟨i, hi, rfl⟩ := List.mem_map.mp hn
    have a1 := mem_upI.mp hi
    obtain ⟨hj, _, _⟩ := o.idx (i := i) a1.1 (by omega)
    omega
/-- where a number stands in the order backwards: at the order's own item -/
theorem back_idx (o : IsOrd os m) {k : Nat} (h : k < os.length) : (backI os).idxOf (k : Int) = (os.getD k 0).toNat := by
  have hl := o.len
  have r := o.rng _ (gd_mem h)
  have hb := o.back
  have lt : (os.getD k 0).toNat < (backI os).length := by rw [backI_len]; omega
  have e : (backI os)[(os.getD k 0).toNat] = (k : Int) := by
    have w := backI_get o (i := (os.getD k 0).toNat) (by omega)
    rw [gd_lt lt] at w
    rw [w]
    have : (((os.getD k 0).toNat : Nat) : Int) = os.getD k 0 := by omega
    rw [this, gd_lt h, o.idxOf_get h]
  rw [← e]
  exact hb.idxOf_get lt
theorem placed_back (o : IsOrd os m) (h : os.length = ns.length) : placedI (placedI ns os) (backI os) = ns := by
  have hl := o.len
  apply List.ext_getElem
  · rw [placedI_len, backI_len, h]
  · intro k h1 h2
    have hk : k < os.length := by omega
    rw [← gd_lt h1, placedI_get (by rw [backI_len]; exact hk), back_idx o hk]
    have r := o.rng _ (gd_mem hk)
    rw [placedI_get (by omega)]
    have : (((os.getD k 0).toNat : Nat) : Int) = os.getD k 0 := by omega
    rw [this, gd_lt hk, o.idxOf_get hk, gd_lt h2]
theorem ren_back (h : Asg ns 5) (o : IsOrd os 5) : renI (renI ns os) (backI os) = ns := by
  unfold renI
  rw [List.map_map]
  conv => rhs; rw [← List.map_id ns]
  apply List.map_congr_left
  intro i hi
  have r := h.rng i hi
  have hl := o.len
  have hk : i.toNat < os.length := by omega
  have r2 := o.rng _ (gd_mem hk)
  show (backI os).getD (os.getD i.toNat 0).toNat 0 = i
  rw [backI_get o (by omega)]
  have : (((os.getD i.toNat 0).toNat : Nat) : Int) = os.getD i.toNat 0 := by omega
  rw [this, gd_lt hk, o.idxOf_get hk]
  omega
theorem zs_placed {F : Int → Int → Int} (o : IsOrd os m) (l1 : os.length = ns.length) (l2 : os.length = ms.length) : zs F (placedI ns os) (placedI ms os) = zs F ns ms := by
  unfold zs
  rw [placedI_len, ← l1, ← o.sums fun j => F (ns.getD j 0) (ms.getD j 0), upI0, List.map_map]
  congr 1
  apply List.map_congr_left
  intro j hj
  have := List.mem_range.mp hj
  show F _ _ = F _ _
  rw [placedI_get this, placedI_get this]
theorem zs_ren (hn : Asg ns 5) (hm : Asg ms 5) (hl : ns.length = ms.length) (o : IsOrd os 5) : zs ne1 (renI ns os) (renI ms os) = zs ne1 ns ms := by
  unfold zs
  have e : (renI ns os).length = ns.length := by simp [renI]
  rw [e]
  congr 1
  apply List.map_congr_left
  intro j hj
  have hj1 := List.mem_range.mp hj
  have hj2 : j < ms.length := by omega
  have r1 := hn.rng _ (gd_mem hj1)
  have r2 := hm.rng _ (gd_mem hj2)
  have ol := o.len
  have e1 : (renI ns os).getD j 0 = os.getD (ns.getD j 0).toNat 0 := by
    rw [gd_lt (by simpa [renI] using hj1), gd_lt hj1]; simp [renI]
  have e2 : (renI ms os).getD j 0 = os.getD (ms.getD j 0).toNat 0 := by
    rw [gd_lt (by simpa [renI] using hj2), gd_lt hj2]; simp [renI]
  rw [e1, e2]
  unfold ne1
  by_cases q : ns.getD j 0 = ms.getD j 0
  · rw [q, if_pos rfl, if_pos rfl]
  · rw [if_neg q, if_neg]
    intro z
    have h1 : (ns.getD j 0).toNat < os.length := by omega
    have h2 : (ms.getD j 0).toNat < os.length := by omega
    rw [gd_lt h1, gd_lt h2] at z
    have := nodup_inj o.nd h1 h2 z
    exact q (by omega)
theorem count_map {g : Int → Int} {i j : Int} : ∀ {ns : List Int}, (∀ n ∈ ns, g n = i ↔ n = j) → (ns.map g).count i = ns.count j
  | [], _ => rfl
  | n :: ns, h => by
    rw [List.map_cons, List.count_cons, List.count_cons, count_map fun n hn => h n (by simp [hn])]
    have := h n (by simp)
    by_cases q : n = j
    · rw [if_pos (beq_iff_eq.mpr (this.mpr q)), if_pos (beq_iff_eq.mpr q)]
    · rw [if_neg (fun z => q (this.mp (beq_iff_eq.mp z))), if_neg (fun z => q (beq_iff_eq.mp z))]
theorem countsI_len : (countsI ns v).length = v.toNat := by simp [countsI, upI]
theorem countsI_get {i : Nat} (h : (i : Int) < v) : (countsI ns v).getD i 0 = (ns.count (i : Int) : Int) := by
  unfold countsI
  rw [List.getD_eq_getElem?_getD]
  have : i < v.toNat := by omega
  simp [upI, this]
theorem counts_ren (h : Asg ns 5) (o : IsOrd os 5) (hp : ms.Perm (renI ns os)) : countsI ms 5 = placedI (countsI ns 5) os := by
  have ol := o.len
  unfold placedI
  have e5 : (5 : Int).toNat = os.length := by omega
  rw [← e5]
  unfold countsI
  apply List.map_congr_left
  intro i hi
  have r := mem_upI.mp hi
  obtain ⟨hj, g, _⟩ := o.idx (i := i) r.1 (by omega)
  have e2 : ((upI 0 (5 : Int).toNat).map fun i => (ns.count i : Int)).getD (os.idxOf i) 0 = (ns.count (os.idxOf i : Int) : Int) := countsI_get (ns := ns) (v := 5) (by omega)
  rw [e2, hp.count_eq, show (renI ns os).count i = ns.count (os.idxOf i : Int) from ?_]
  refine count_map fun n hn => ?_
  have rn := h.rng n hn
  have hk : n.toNat < os.length := by omega
  rw [gd_lt hk]
  constructor
  · intro e
    rw [← e, o.idxOf_get hk]
    omega
  · intro e
    have : n.toNat = os.idxOf i := by omega
    have e3 : os[n.toNat]? = some i := by rw [this]; exact g
    rw [List.getElem?_eq_getElem hk] at e3
    exact Option.some.inj e3
theorem Asg.alc (h : Asg ns v) (hv : 0 ≤ v) : Alc (countsI ns v) v ns.length := by
  refine ⟨by rw [countsI_len]; omega, ?_, fun n hn => ?_⟩
  · exact count_sum v.toNat ns fun n hn => by have := h.rng n hn; omega
  · obtain ⟨i, _, rfl⟩ := List.mem_map.mp hn
    omega
theorem e_neg {c : Ct} {Γ : List (Option Rs)} {te : TE} {k : Kd} {i : Int} (h : Ev c te Γ k (.int i)) : Ev c (tUn (rU fun i => .int (-i)) te) Γ .v (.int (-i)) := fun H0 O H σ e Q q =>
  h H0 O H σ e _ fun v H1 r s => ⟨i, (Res.bo e s).int', q _ H1 r (.int _)⟩
/-- a list of data that is filled place by place with ints -/
structure DueD (ns os : List Int) (due : List PyData) (v : Int) (n : Nat) : Prop where
  len : (due.length : Int) = v
  flat : ∀ d ∈ due, flatD d = true
  got : ∀ j, j < n → due[(os.getD j 0).toNat]? = some (.int (ns.getD j 0))
theorem DueD.fl {due : List PyData} {n : Nat} (d : DueD ns os due v n) : flatAll due = true := flatAll_mem d.flat
theorem DueD.step {due : List PyData} {n : Nat} (d : DueD ns os due v n) (ho : IsOrd os v) (hn : n < os.length) : DueD ns os (due.set (os.getD n 0).toNat (.int (ns.getD n 0))) v (n + 1) := by
  have hl := d.len
  have r1 := ho.rng _ (gd_mem hn)
  have h1 : (os.getD n 0).toNat < due.length := by omega
  refine ⟨by rw [List.length_set]; exact d.len, fun x hx => ?_, fun j hj => ?_⟩
  · rcases List.mem_or_eq_of_mem_set hx with q | q
    · exact d.flat x q
    · rw [q]; rfl
  by_cases q : j = n
  · subst q
    rw [List.getElem?_set_self h1]
  · have hj' : j < n := by omega
    have hjl : j < os.length := by omega
    have r2 := ho.rng _ (gd_mem hjl)
    have ne : (os.getD n 0).toNat ≠ (os.getD j 0).toNat := fun e => by
      have e2 : os.getD j 0 = os.getD n 0 := by omega
      rw [gd_lt hn, gd_lt hjl] at e2
      exact q (nodup_inj ho.nd hjl hn e2)
    rw [List.getElem?_set_ne ne]
    exact d.got j hj'
theorem DueD.done {due : List PyData} (d : DueD ns os due v os.length) (ho : IsOrd os v) : due = (placedI ns os).map .int := by
  have hl := d.len
  have hol := ho.len
  apply List.ext_getElem
  · simp [placedI, upI]; omega
  · intro i h1 h2
    obtain ⟨hj, h3, _⟩ := ho.idx (i := (i : Int)) (by omega) (by omega)
    have g := d.got _ hj
    have e1 : os.getD (os.idxOf (i : Int)) 0 = i := by rw [List.getD_eq_getElem?_getD, h3]; rfl
    rw [e1] at g
    have e2 : ((i : Int)).toNat = i := by omega
    rw [e2, List.getElem?_eq_getElem h1] at g
    rw [Option.some.inj g]
    unfold placedI
    simp [upI]
theorem dueD0 (h : 0 ≤ v) : DueD ns os ((upI 0 v.toNat).map fun _ => .none) v 0 := ⟨by simp [upI]; omega, fun d hd => by obtain ⟨_, _, rfl⟩ := List.mem_map.mp hd; rfl, fun j hj => absurd hj (by omega)⟩
theorem shaped2 (ns ms : List Int) : SeqAt.shaped (.list [.tuple (ns.map .int), .tuple (ms.map .int)]) = true := by
  simp [SeqAt.shaped, PyData.canLay0, PyData.canLayAll0, PyData.depth, PyData.depthAll, PySem.W.ke_canLayAll0, PySem.W.ke_depthAll]
theorem eqv2 (ns ms : List Int) : PyData.eqv (.list [.tuple (ns.map .int), .tuple (ms.map .int)]) (.list [.tuple (ns.map .int), .tuple (ms.map .int)]) = true := by
  have h1 := eqvT ns ns
  have h2 := eqvT ms ms
  simp only [PyData.eqv, PyData.eqvAll] at h1 h2 ⊢
  rw [h1, h2]
  simp
theorem flat2 (ns ms : List Int) : flatAll [.tuple (ns.map .int), .tuple (ms.map .int)] = true := by simp [flatAll, flatD, flatAll_ints]
def tupI (ns : List Int) : Im := .d (.tuple (ns.map .int))
theorem at_lastI {α : Type} (l : List α) (x : α) : atI (l ++ [x]) (-1) = some x := by
  unfold atI ixN
  have h1 : ¬ (0 : Int) ≤ -1 := by omega
  have hl : ((l ++ [x]).length : Int) = l.length + 1 := by simp
  rw [if_neg h1, hl, if_pos (by omega)]
  have h2 : (-1 + ((l.length : Int) + 1)).toNat = l.length := by omega
  show (l ++ [x])[(-1 + ((l.length : Int) + 1)).toNat]? = some x
  rw [h2]
  simp
theorem mem2 {α : Type} {P : α → Prop} {a b : α} (ha : P a) (hb : P b) : ∀ x ∈ [a, b], P x := fun x hx => by
  rcases List.mem_cons.mp hx with q | q
  · rw [q]; exact ha
  · rw [List.mem_singleton.mp q]; exact hb
end Lm

/-! moves that are not needed -/
namespace Lm
open PySem PySem.Spec PyProof.Rows L2
abbrev Mv := (Int × Int) × Nat
def mvL (ns ms : List Int) : List Mv := (ns.zip ms).zipIdx.filter fun p => !decide (p.1.1 = p.1.2)
theorem movesD_eq (ns ms : List Int) : movesD ns ms = (mvL ns ms).map mvT := rfl
def lvT (p : Mv) : PyData := .tuple [.int (p.2 : Nat), .str "leaves"]
def enT (p : Mv) : PyData := .tuple [.int (p.2 : Nat), .str "enters"]
/-- the first move that is not needed -/
def dueF (bf af : List Int) : List Mv → PyData
  | [] => .none
  | p :: r => if bf.getD p.1.1.toNat 0 ≤ af.getD p.1.1.toNat 0 then lvT p else if af.getD p.1.2.toNat 0 ≤ bf.getD p.1.2.toNat 0 then enT p else dueF bf af r
theorem dueF_kinds (bf af : List Int) : ∀ l, dueF bf af l = .none ∨ (∃ p, dueF bf af l = lvT p) ∨ ∃ p, dueF bf af l = enT p
  | [] => .inl rfl
  | p :: r => by
    unfold dueF
    split
    · exact .inr (.inl ⟨p, rfl⟩)
    · split
      · exact .inr (.inr ⟨p, rfl⟩)
      · exact dueF_kinds bf af r
theorem dueF_flat (bf af : List Int) (l : List Mv) : flatD (dueF bf af l) = true := by
  rcases dueF_kinds bf af l with h | ⟨p, h⟩ | ⟨p, h⟩ <;> rw [h] <;> rfl
theorem dueF_ok (bf af : List Int) (l : List Mv) {n : Nat} : EqOk (n + 1) (dueF bf af l) := by
  rcases dueF_kinds bf af l with h | ⟨p, h⟩ | ⟨p, h⟩ <;> rw [h]
  · exact .non
  · exact .tup (by simp) fun x hx => by
      rcases List.mem_cons.mp hx with q | q
      · rw [q]; exact .int _
      · rw [List.mem_singleton.mp q]; exact .str _
  · exact .tup (by simp) fun x hx => by
      rcases List.mem_cons.mp hx with q | q
      · rw [q]; exact .int _
      · rw [List.mem_singleton.mp q]; exact .str _
theorem dueF_none (bf af : List Int) : ∀ l, isNoneD (dueF bf af l) = true ↔ ∀ p ∈ l, af.getD p.1.1.toNat 0 < bf.getD p.1.1.toNat 0 ∧ bf.getD p.1.2.toNat 0 < af.getD p.1.2.toNat 0
  | [] => by simp [dueF, isNoneD]
  | p :: r => by
    have ih := dueF_none bf af r
    unfold dueF
    by_cases h1 : bf.getD p.1.1.toNat 0 ≤ af.getD p.1.1.toNat 0
    · rw [if_pos h1]
      constructor
      · intro h; exact absurd h (by simp [lvT, isNoneD])
      · intro h; have := (h p (by simp)).1; omega
    · rw [if_neg h1]
      by_cases h2 : af.getD p.1.2.toNat 0 ≤ bf.getD p.1.2.toNat 0
      · rw [if_pos h2]
        constructor
        · intro h; exact absurd h (by simp [enT, isNoneD])
        · intro h; have := (h p (by simp)).2; omega
      · rw [if_neg h2, ih]
        constructor
        · intro h q hq
          rcases List.mem_cons.mp hq with w | w
          · rw [w]; exact ⟨by omega, by omega⟩
          · exact h q w
        · exact fun h q hq => h q (by simp [hq])
/-! ### out and in -/
def outI (i : Int) : List (Int × Int) → Int
  | [] => 0
  | p :: r => (if p.1 = i ∧ p.2 ≠ i then 1 else 0) + outI i r
def innI (i : Int) : List (Int × Int) → Int
  | [] => 0
  | p :: r => (if p.2 = i ∧ p.1 ≠ i then 1 else 0) + innI i r
theorem out_nn (i : Int) : ∀ z, 0 ≤ outI i z
  | [] => Int.le_refl _
  | p :: r => by have := out_nn i r; unfold outI; split <;> omega
theorem inn_nn (i : Int) : ∀ z, 0 ≤ innI i z
  | [] => Int.le_refl _
  | p :: r => by have := inn_nn i r; unfold innI; split <;> omega
theorem out_pos {p : Int × Int} (hp : p.1 ≠ p.2) : ∀ {z}, p ∈ z → 0 < outI p.1 z
  | q :: r, h => by
    have := out_nn p.1 r
    unfold outI
    rcases List.mem_cons.mp h with w | w
    · subst w
      rw [if_pos ⟨rfl, fun e => hp e.symm⟩]
      omega
    · have := out_pos hp w
      split <;> omega
theorem inn_pos {p : Int × Int} (hp : p.1 ≠ p.2) : ∀ {z}, p ∈ z → 0 < innI p.2 z
  | q :: r, h => by
    have := inn_nn p.2 r
    unfold innI
    rcases List.mem_cons.mp h with w | w
    · subst w
      rw [if_pos ⟨rfl, hp⟩]
      omega
    · have := inn_pos hp w
      split <;> omega
theorem out_ex {i : Int} : ∀ {z}, 0 < outI i z → ∃ p ∈ z, p.1 = i ∧ p.2 ≠ i
  | [], h => by simp [outI] at h
  | q :: r, h => by
    by_cases w : q.1 = i ∧ q.2 ≠ i
    · exact ⟨q, by simp, w⟩
    · unfold outI at h
      rw [if_neg w] at h
      obtain ⟨p, hp, e⟩ := out_ex (i := i) (z := r) (by omega)
      exact ⟨p, by simp [hp], e⟩
theorem inn_ex {i : Int} : ∀ {z}, 0 < innI i z → ∃ p ∈ z, p.2 = i ∧ p.1 ≠ i
  | [], h => by simp [innI] at h
  | q :: r, h => by
    by_cases w : q.2 = i ∧ q.1 ≠ i
    · exact ⟨q, by simp, w⟩
    · unfold innI at h
      rw [if_neg w] at h
      obtain ⟨p, hp, e⟩ := inn_ex (i := i) (z := r) (by omega)
      exact ⟨p, by simp [hp], e⟩
theorem count_diff (i : Int) : ∀ {ns ms : List Int}, ns.length = ms.length → (ns.count i : Int) - ms.count i = outI i (ns.zip ms) - innI i (ns.zip ms)
  | [], [], _ => rfl
  | a :: ns, b :: ms, h => by
    have ih := count_diff i (ns := ns) (ms := ms) (by simpa using h)
    rw [List.count_cons, List.count_cons, List.zip_cons_cons]
    unfold outI innI
    by_cases h1 : a = i <;> by_cases h2 : b = i <;> simp [h1, h2] <;> omega
  | [], _ :: _, h => by simp at h
  | _ :: _, [], h => by simp at h
def neZ : List (Int × Int) → Int
  | [] => 0
  | p :: r => ne1 p.1 p.2 + neZ r
theorem zs_neZ : ∀ {ns ms : List Int}, ns.length = ms.length → zs ne1 ns ms = neZ (ns.zip ms)
  | [], [], _ => rfl
  | a :: ns, b :: ms, h => by
    rw [zs_cons, zs_neZ (by simpa using h), List.zip_cons_cons]
    rfl
  | [], _ :: _, h => by simp at h
  | _ :: _, [], h => by simp at h
theorem ind_sum (p : Int × Int) : ∀ l : List Int, (l.map fun i => if p.1 = i ∧ p.2 ≠ i then (1 : Int) else 0).sum = if p.1 = p.2 then 0 else (l.count p.1 : Int)
  | [] => by simp
  | a :: l => by
    rw [List.map_cons, List.sum_cons, ind_sum p l, List.count_cons]
    by_cases h1 : p.1 = p.2
    · rw [if_pos h1, if_pos h1, if_neg (fun z => z.2 (h1.symm.trans z.1))]
      rfl
    · rw [if_neg h1, if_neg h1]
      by_cases h2 : p.1 = a
      · have h3 : p.2 ≠ a := fun z => h1 (h2.trans z.symm)
        rw [if_pos ⟨h2, h3⟩, if_pos (beq_iff_eq.mpr h2.symm)]
        omega
      · rw [if_neg (fun z => h2 z.1), if_neg (fun z => h2 (beq_iff_eq.mp z).symm)]
        omega
theorem sum_add (f g : Int → Int) : ∀ l : List Int, (l.map fun i => f i + g i).sum = (l.map f).sum + (l.map g).sum
  | [] => rfl
  | a :: l => by
    simp only [List.map_cons, List.sum_cons]
    rw [sum_add f g l]
    omega
theorem sum_zero : ∀ l : List Int, (l.map fun _ => (0 : Int)).sum = 0
  | [] => rfl
  | a :: l => by rw [List.map_cons, List.sum_cons, sum_zero l]; rfl
theorem out_sum (v : Nat) : ∀ {z : List (Int × Int)}, (∀ p ∈ z, 0 ≤ p.1 ∧ p.1 < (v : Int)) → ((upI 0 v).map fun i => outI i z).sum = neZ z
  | [], _ => sum_zero _
  | p :: r, h => by
    have ih := out_sum v (z := r) fun q hq => h q (by simp [hq])
    have hp := h p (by simp)
    have e : ((upI 0 v).map fun i => outI i (p :: r)) = (upI 0 v).map fun i => (if p.1 = i ∧ p.2 ≠ i then (1 : Int) else 0) + outI i r := rfl
    rw [e, sum_add (fun i => if p.1 = i ∧ p.2 ≠ i then (1 : Int) else 0) (fun i => outI i r), ih, ind_sum, upI_count hp.1 hp.2]
    show _ = ne1 p.1 p.2 + neZ r
    unfold ne1
    by_cases q : p.1 = p.2
    · rw [if_pos q, if_pos q]
    · rw [if_neg q, if_neg q]; rfl
theorem sum_eq_iff {a b : Int → Int} : ∀ {l : List Int}, (∀ i ∈ l, a i ≤ b i) → ((l.map a).sum ≤ (l.map b).sum) ∧ ((l.map b).sum = (l.map a).sum ↔ ∀ i ∈ l, b i = a i)
  | [], _ => ⟨Int.le_refl _, by simp⟩
  | x :: l, h => by
    obtain ⟨h1, h2⟩ := sum_eq_iff (l := l) fun i hi => h i (by simp [hi])
    have hx := h x (by simp)
    simp only [List.map_cons, List.sum_cons]
    refine ⟨by omega, ⟨fun e i hi => ?_, fun e => ?_⟩⟩
    · rcases List.mem_cons.mp hi with q | q
      · rw [q]; omega
      · exact h2.mp (by omega) i q
    · have := e x (by simp)
      have := h2.mpr fun i hi => e i (by simp [hi])
      omega
variable {ns ms : List Int} {v : Int}
theorem trI_counts (hv : 0 ≤ v) : trI (countsI ns v) (countsI ms v) = ((upI 0 v.toNat).map fun i => t0 (ns.count i) (ms.count i)).sum := by
  rw [trI_up (by rw [countsI_len, countsI_len]), countsI_len]
  congr 1
  apply List.map_congr_left
  intro i hi
  have r := mem_upI.mp hi
  obtain ⟨j, rfl⟩ := Int.eq_ofNat_of_zero_le r.1
  have e : ((j : Int)).toNat = j := by omega
  rw [e, countsI_get (by omega), countsI_get (by omega)]
theorem mem_mvL {p : Int × Int} : p ∈ ns.zip ms → p.1 ≠ p.2 → ∃ n, (p, n) ∈ mvL ns ms := fun h hne => by
  have e : (ns.zip ms).zipIdx.map Prod.fst = ns.zip ms := List.zipIdx_map_fst ..
  rw [← e] at h
  obtain ⟨q, hq, rfl⟩ := List.mem_map.mp h
  exact ⟨q.2, List.mem_filter.mpr ⟨hq, by simpa using hne⟩⟩
theorem of_mvL {p : Mv} (h : p ∈ mvL ns ms) : p.1 ∈ ns.zip ms ∧ p.1.1 ≠ p.1.2 := by
  obtain ⟨h1, h2⟩ := List.mem_filter.mp h
  have e : (ns.zip ms).zipIdx.map Prod.fst = ns.zip ms := List.zipIdx_map_fst ..
  exact ⟨by rw [← e]; exact List.mem_map.mpr ⟨p, h1, rfl⟩, by simpa using h2⟩
/-- no move is without need if and only if the churn is what goes over -/
theorem due_iff (hn : Asg ns v) (hm : Asg ms v) (hl : ns.length = ms.length) (hv : 0 ≤ v) : isNoneD (dueF (countsI ns v) (countsI ms v) (mvL ns ms)) = decide (zs ne1 ns ms = trI (countsI ns v) (countsI ms v)) := by
  have rz : ∀ p ∈ ns.zip ms, (0 ≤ p.1 ∧ p.1 < v) ∧ 0 ≤ p.2 ∧ p.2 < v := fun p hp => ⟨hn.rng _ (List.of_mem_zip hp).1, hm.rng _ (List.of_mem_zip hp).2⟩
  have cg : ∀ (l : List Int) (i : Int), 0 ≤ i → i < v → (countsI l v).getD i.toNat 0 = (l.count i : Int) := fun l i h0 h1 => by
    have := countsI_get (ns := l) (v := v) (i := i.toNat) (by omega)
    have e : ((i.toNat : Nat) : Int) = i := by omega
    rw [this, e]
  have key : zs ne1 ns ms = trI (countsI ns v) (countsI ms v) ↔ ∀ i, 0 ≤ i → i < v → outI i (ns.zip ms) = 0 ∨ innI i (ns.zip ms) = 0 := by
    rw [zs_neZ hl, ← out_sum v.toNat (z := ns.zip ms) (fun p hp => by have := (rz p hp).1; omega), trI_counts hv]
    have le : ∀ i ∈ upI 0 v.toNat, t0 (ns.count i) (ms.count i) ≤ outI i (ns.zip ms) := fun i _ => by
      have := count_diff i hl
      have := out_nn i (ns.zip ms)
      have := inn_nn i (ns.zip ms)
      unfold t0
      split <;> omega
    rw [(sum_eq_iff le).2]
    constructor
    · intro h i h0 h1
      have e := h i (mem_upI.mpr ⟨h0, by omega⟩)
      have := count_diff i hl
      have := out_nn i (ns.zip ms)
      have := inn_nn i (ns.zip ms)
      unfold t0 at e
      split at e <;> omega
    · intro h i hi
      have r := mem_upI.mp hi
      have := h i r.1 (by omega)
      have := count_diff i hl
      have := out_nn i (ns.zip ms)
      have := inn_nn i (ns.zip ms)
      unfold t0
      split <;> omega
  rw [Bool.eq_iff_iff, decide_eq_true_iff, key, dueF_none]
  constructor
  · intro h i h0 h1
    have ho := out_nn i (ns.zip ms)
    have hi := inn_nn i (ns.zip ms)
    refine Decidable.byContradiction fun hc => ?_
    obtain ⟨p, hp, e1, e2⟩ := out_ex (i := i) (z := ns.zip ms) (by omega)
    obtain ⟨q, hq, e3, e4⟩ := inn_ex (i := i) (z := ns.zip ms) (by omega)
    obtain ⟨n1, g1⟩ := mem_mvL hp (by rw [e1]; exact fun z => e2 z.symm)
    obtain ⟨n2, g2⟩ := mem_mvL hq (by rw [e3]; exact e4)
    have a1 := (h _ g1).1
    have a2 := (h _ g2).2
    simp only [e1, e3] at a1 a2
    omega
  · intro h p hp
    obtain ⟨hz, hne⟩ := of_mvL hp
    have r := rz _ hz
    rw [cg ns _ r.1.1 r.1.2, cg ms _ r.1.1 r.1.2, cg ns _ r.2.1 r.2.2, cg ms _ r.2.1 r.2.2]
    have d1 := count_diff p.1.1 hl
    have d2 := count_diff p.1.2 hl
    have o1 := out_pos hne hz
    have i2 := inn_pos hne hz
    have := h _ r.1.1 r.1.2
    have := h _ r.2.1 r.2.2
    exact ⟨by omega, by omega⟩
def sp_check_variants (K : PySem.W.Frag) : Sp := spD K fun ds k d => ∃ v : Int, ds = [.int v] ∧ 1 ≤ v ∧ v ≤ 5 ∧ k = .v ∧ d = .none
def sp_needless (K : PySem.W.Frag) : Sp := spD K fun ds k d => ∃ (v : Int) (ns ms : List Int), ds = [.int v, .tuple (ns.map .int), .tuple (ms.map .int)] ∧ Asg ns v ∧ Asg ms v ∧ ns.length = ms.length ∧ 1 ≤ v ∧ v ≤ 5 ∧ k = .v ∧ d = dueF (countsI ns v) (countsI ms v) (mvL ns ms)
def sp_is_minimal (K : PySem.W.Frag) : Sp := spD K fun ds k d => ∃ (v : Int) (ns ms : List Int), ds = [.int v, .tuple (ns.map .int), .tuple (ms.map .int)] ∧ Asg ns v ∧ Asg ms v ∧ ns.length = ms.length ∧ 1 ≤ v ∧ v ≤ 5 ∧ k = .v ∧ d = .bool (isNoneD (dueF (countsI ns v) (countsI ms v) (mvL ns ms)))
def sp__law_due (K : PySem.W.Frag) : Sp := spD K fun ds k d => ∃ (v : Int) (ns ms : List Int), ds = [.int v, .tuple (ns.map .int), .tuple (ms.map .int)] ∧ Asg ns v ∧ Asg ms v ∧ ns.length = ms.length ∧ 1 ≤ v ∧ v ≤ 5 ∧ k = .v ∧ d = dueF (countsI ns v) (countsI ms v) (mvL ns ms)
def sp__law_churn (K : PySem.W.Frag) : Sp := spD K fun ds k d => ∃ (ns ms : List Int), ds = [.tuple (ns.map .int), .tuple (ms.map .int)] ∧ ns.length = ms.length ∧ ns.length ≤ 1000 ∧ k = .v ∧ d = .int (zs ne1 ns ms)
def sp__law_sizes (K : PySem.W.Frag) : Sp := spS K fun ds k P => ds = [] ∧ k = .v ∧ P = fun d => ∃ v b : Int, d = .tuple [.int v, .int b] ∧ 1 ≤ v ∧ v ≤ 5 ∧ 0 ≤ b ∧ b ≤ 6
/-! ### lists with drawn items, drawn places -/
section
variable {c : Ct} {Γ : List (Option Rs)} {ta tb : TE} {k ka kb : Kd} {x : PyData}
theorem n_ixL {Pa P : PyData → Prop} {Q : Int → Prop} (ha : EvN c ta Γ ka Pa) (hb : EvN c tb Γ kb (SomeI Q)) (hr : ∀ x i, Pa x → Q i → ∃ ds d, x = .list ds ∧ atI ds i = some d ∧ flatD d = true ∧ P d) : EvN c (tOp (rIx c.K) ta tb) Γ .v P := fun H0 O H σ e Q' q =>
  ha H0 O H σ e _ fun v x H1 px r1 s1 => hb H0 O H1 σ (e.on r1) _ fun u y H2 ⟨i, hi, qi⟩ r2 s2 => by
    obtain ⟨ds, d, rfl, he, hf, pd⟩ := hr x i px qi
    subst hi
    obtain ⟨p, xs, rfl, _, s, al⟩ := (Res.bo e (Res.on e r1 r2 s1)).lst'
    obtain ⟨x, hx, bx⟩ := atI_bo al he
    exact .inl ⟨p, xs, i, x, rfl, (Res.bo (e.on r1) s2).int', s, hx, q x d H2 pd (r1.tr r2) (Bo.flatM e (r1.tr r2) hf bx)⟩
theorem n_lst2 {Pb : PyData → Prop} (ha : Ev c ta Γ ka x) (hb : EvN c tb Γ kb Pb) (hx : flatD x = true) (hp : ∀ y, Pb y → flatD y = true) : EvN c (tLst (tCons ta (tCons tb tNil))) Γ .o (fun d => ∃ y, d = .list [x, y] ∧ Pb y) := fun H0 O H σ e Q q =>
  ha H0 O H σ e _ fun v H1 r1 s1 => hb H0 O H1 σ (e.on r1) _ fun u y H2 py r2 s2 => by
    refine ⟨by show 2 ≤ sizeLine; decide, fun p hp' => ?_⟩
    have sm : Same H2 (upd H2 p (.lst [v, u])) := fun b u z => by rw [upd_ne (ne_of_none z hp')]; exact z
    have al : BoAll c H2 [v, u] [x, y] := .cons (Res.bo e (Res.on e r1 r2 s1)) (.cons (Res.bo (e.on r1) s2) .nil)
    have fl : flatAll [x, y] = true := flatAll_mem fun d hd => by
      rcases List.mem_cons.mp hd with w | w
      · rw [w]; exact hx
      · rw [List.mem_singleton.mp w]; exact hp y py
    refine q _ _ _ ⟨y, rfl, py⟩ ((r1.tr r2).tr (Rr.same sm)) ⟨[p], .lst upd_same (FoAll.leaves fl (al.same sm)), by simp, fun a ha => ?_⟩
    cases List.mem_singleton.mp ha
    exact (r1.tr r2).back e.jH hp'
end
theorem neq_up (a b : Nat → Int) : ∀ l : List Int, (((l.filter fun i => !decide (a i.toNat = b i.toNat)).length : Nat) : Int) = (l.map fun i => ne1 (a i.toNat) (b i.toNat)).sum
  | [] => rfl
  | x :: l => by
    rw [List.filter_cons, List.map_cons, List.sum_cons, ← neq_up a b l]
    by_cases q : a x.toNat = b x.toNat
    · simp [q, ne1]
    · simp [q, ne1]
      omega
theorem churn_up : ((((upI 0 ns.length).filter fun i => !decide (ns.getD i.toNat 0 = ms.getD i.toNat 0)).length : Nat) : Int) = zs ne1 ns ms := by
  rw [neq_up (fun j => ns.getD j 0) fun j => ms.getD j 0, upI0, List.map_map]
  rfl
theorem s_asgN {c : Ct} {Γ : List (Option Rs)} {te : TE} {P : Out → Prop} {n : Nat} (Pd : PyData → Prop) (h : EvN c te Γ .v Pd) (p : ∀ d, Pd d → P (.nx (Γ.set n (some (.v d))))) : Sd c (tAsg te (gName n)) Γ P := fun H0 O H σ D e s =>
  h H0 O H σ e _ fun v d H2 pd r q => s _ (p d pd) O H2 _ ((e.on r).setV q)
end Lm

/-! sorted of a tuple of ints; zip of three with one name as target -/
namespace Lm
open PySem PySem.Spec PyProof.Rows L2
section
variable {prog : Program} {w : World} {A : Around} {E : Value → Shared → Prop} {s : Shared}
theorem collectT {l : Addr} {vs : List Value} {Q : List Value → Shared → Prop} (hl : s.heap.IsTuple l vs.toArray)
    (h : Q vs { s with heap := (s.heap.push (seqObj "list" #[] 0)).update s.heap.objs.size (Obj.mapSeq (· ++ vs.toArray)) }) (hsz : vs.length ≤ sizeLine) :
    wpAny (model prog w) A (collect (.ref l)) Q E s := by
  obtain ⟨o, ho, hc, n, hd⟩ := id hl
  unfold collect
  refine wpAny_bind (wpAny_runValue (codeAny_builtin entry_proto_collect' ?_))
  show wpAny _ _ (do again (.builtin "list.__iadd__" ⟨[← newList [], .ref l], []⟩)) _ _ s
  refine wpAny_bind (wpAny_newList (wpAny_pure ⟨Code.quiet_builtin _ (by decide +kernel), codeAny_builtin entry_list_iadd' ?_⟩))
  show wpAny _ _ (Builtin.List.listExtendWith (.ref s.heap.objs.size) (.ref l) (.ref s.heap.objs.size)) _ _ { s with heap := s.heap.push (seqObj "list" #[] 0) }
  unfold Builtin.List.listExtendWith
  have ho' : (s.heap.push (seqObj "list" #[] 0)).get? l = some o := Heap.get?_push_of_some _ ho
  have hn : (s.heap.push (seqObj "list" #[] 0)).get? s.heap.objs.size = some (seqObj "list" #[] 0) := Heap.get?_push_size _ rfl
  refine wpAny_bind (wpAny_typeOf (T := "tuple") ⟨o, ho', hc⟩ ?_)
  have ht : (Value.type "tuple" == Value.type "tuple") = true := by rfl
  rw [if_pos (by rw [ht]; simp)]
  refine wpAny_bind (listItems_at ho' hd (wpAny_bind (listItems_at (xs := #[]) (n := 0) hn rfl ?_)))
  rw [if_neg (by simp)]
  refine wpAny_bind (listUpdate_at (xs := #[]) (n := 0) hn rfl ?_ (Nat.zero_le _) (by show (#[] ++ vs.toArray).size ≤ sizeLine + 1; simp only [Array.size_append, List.size_toArray, List.length_nil]; omega))
  refine wpAny_pure ?_
  show wpAny (model prog w) A (do
      let o ← load s.heap.objs.size
      match o.data with
      | .seq xs _ => pure xs.toList
      | _ => unsupported "internal:collect") Q E { s with heap := (s.heap.push (seqObj "list" #[] 0)).update s.heap.objs.size (Obj.mapSeq (· ++ vs.toArray)) }
  refine wpAny_bind (wpAny_load (get?_update_seq hn _) ?_)
  show wpAny _ _ (pure ((#[] : Array Value) ++ vs.toArray).toList) Q E _
  rw [show ((#[] : Array Value) ++ vs.toArray).toList = vs by simp]
  exact wpAny_pure h
theorem sortedT {l : Addr} {vs : List Value} {ns : List Int} {Q : Value → Shared → Prop} (hl : s.heap.IsTuple l vs.toArray) (hI : IntsAre vs ns) (h64 : vs.length < 64)
    (h : ∀ (out : Array Value) (ns' : List Int), IntsAre out.toList ns' → ns'.Perm ns → ns'.Pairwise (· ≤ ·) → Q (.ref (s.heap.objs.size + 1)) { s with heap := sortedAll s.heap vs out }) :
    wpAny (model prog w) A (call (.builtin "sorted") [.ref l]) Q E s := by
  refine Calls.call_function_entry kind_sorted plain_sorted entry_sorted (args_sorted1 _) ?_
  unfold Builtin.«sorted»
  refine wpAny_bind (m := checkCount "sorted" 1 1 _) (wpAny_pure (wpAny_bind (collectT hl ?_ (by rw [sizeLine_eq]; omega))))
  refine wpAny_bind (wpAny_newList ?_)
  have hsz : ((s.heap.push (seqObj "list" #[] 0)).update s.heap.objs.size (Obj.mapSeq (· ++ vs.toArray))).objs.size = s.heap.objs.size + 1 := by
    rw [Heap.size_update, size_push']
  have hoL : (((s.heap.push (seqObj "list" #[] 0)).update s.heap.objs.size (Obj.mapSeq (· ++ vs.toArray))).push (seqObj "list" vs.toArray 0)).get? (s.heap.objs.size + 1) = some (seqObj "list" vs.toArray 0) := by
    rw [← hsz]; exact Heap.get?_push_size _ rfl
  show wpAny _ _ _ _ _ { s with heap := ((s.heap.push (seqObj "list" #[] 0)).update s.heap.objs.size (Obj.mapSeq (· ++ vs.toArray))).push (seqObj "list" vs.toArray 0) }
  rw [hsz]
  refine wpAny_bind (wpAny_holding (wpAny_call_entry PyProof.Rows.slot_list_sort ⟨_, hoL, rfl⟩ PyProof.Rows.entry_list_sort (list_sort_tree hoL hI h64 fun out ns' a1 a2 a3 => ⟨_, rfl, ?_⟩) (PyProof.Rows.args_list_sort _)))
  exact wpAny_pure ⟨_, rfl, h out ns' a1 a2 a3⟩
end
def rSortedT (K : PySem.W.Frag) : List V → Hp → VK → Prop := fun vs H Q => ∃ (a : Addr) (ns : List Int), vs = [V.ref a] ∧ SqT K H a (ns.map V.int) ∧ ns.length < 64 ∧
  ∀ (ns' : List Int) (p : Addr), ns'.Perm ns → ns'.Pairwise (· ≤ ·) → H p = none → Q (.ref p) (upd H p (.lst (ns'.map V.int)))
section
variable {X : Cx}
theorem cr_sortedT : CallR X (.builtin "sorted") (rSortedT X.K) := by
  intro pins s σ H vs us Q I r h
  obtain ⟨a, ns, rfl, hs, h64, q⟩ := h
  obtain ⟨its, rv, hl, _⟩ := I.tuple hs
  rw [Vals.ref1 r]
  have hi := ints_of_vals rv
  refine sortedT (show s.heap.IsTuple a its.toArray from hl) hi (by rw [hi.length]; exact h64) fun out ns' h1 h2 h3 => ?_
  obtain ⟨ep, he'⟩ := PyProof.Rows.sortedAll_at s.heap its out
  have hlen : (ns'.map V.int).length ≤ sizeLine := by rw [List.length_map, h2.length_eq]; exact small64 h64
  exact ⟨.ref _, upd H (s.heap.objs.size + 1) (.lst (ns'.map V.int)), I.laid (t' := s.toks) (fun _ _ => PyProof.Rows.sortedAll_old) (Nat.le_succ _) ⟨hlen, out.toList, ep, vals_of_ints h1, he'⟩, rfl, q ns' _ h2 h3 (I.hok.fresh (Nat.le_succ _))⟩
def rSortedA (K : PySem.W.Frag) : List V → Hp → VK → Prop := fun vs H Q => rSorted K vs H Q ∨ rSortedT K vs H Q
theorem k_sorted {K : PySem.W.Frag} (hK : X.K = K) : CallR X (.builtin "sorted") (rSortedA K) := hK ▸ cr_sorted.or cr_sortedT
end
section
variable {c : Ct} {Γ : List (Option Rs)} {te : TE} {k : Kd}
/-- sorted(t): a new list -/
theorem n_sortedT {ns : List Int} (h : Ev c te Γ k (.tuple (ns.map .int))) (hl : ns.length < 64) : EvN c (tCB (rSortedA c.K) (tCons te tNil)) Γ .o (fun d => ∃ ns' : List Int, d = .list (ns'.map .int) ∧ ns'.Perm ns ∧ ns'.Pairwise (· ≤ ·)) := fun H0 O H σ e Q q =>
  h H0 O H σ e _ fun v H1 r s => by
    obtain ⟨p, xs, rfl, sl, al⟩ := (Res.bo e s).tup'
    have := al.ints
    subst this
    refine .inr ⟨p, ns, rfl, sl.sq, hl, fun ns' p' h1 h2 hp => ?_⟩
    have sm : Same H1 (upd H1 p' (.lst (ns'.map V.int))) := fun b u z => by rw [upd_ne (ne_of_none z hp)]; exact z
    exact q _ _ _ ⟨ns', rfl, h1, h2⟩ (r.tr (Rr.same sm)) ⟨[p'], .lst upd_same (FoAll.leaves (flatAll_ints _) (BoAll.ofInts _)), by simp, fun a ha => by
      cases List.mem_singleton.mp ha
      exact r.back e.jH hp⟩
end
/-! ### zip of three -/
section
variable {prog : Program} {w : World} {A : Around} {E : Value → Shared → Prop} {s : Shared} {z TI TO i1 i2 i3 : Addr} {fp1 fp2 fp3 : List Addr} {n1 n2 n3 i : Nat} {P1 P2 P3 : Nat → Value → Prop} {St1 St2 St3 : Nat → Heap → Prop} {a1 a2 a3 : Value} {b : Bool} {x : Value}
theorem zipX3_item {Q : Value → Shared → Prop} (S : ZipSep3 z TI TO i1 i2 i3 fp1 fp2 fp3) (D1 : Draws prog w A i1 fp1 n1 P1 St1) (D2 : Draws prog w A i2 fp2 n2 P2 St2) (D3 : Draws prog w A i3 fp3 n3 P3 St3)
    (hz : IsZipX s.heap z TI TO x b) (hx : x = .none ∨ ∃ T : Addr, x = rawInt T) (hTI : IsTupOf3 s.heap TI (.ref i1) (.ref i2) (.ref i3)) (hTO : IsTupOf3 s.heap TO a1 a2 a3) (st1 : St1 i s.heap) (st2 : St2 i s.heap) (st3 : St3 i s.heap) (hlt1 : i < n1) (hlt2 : i < n2) (hlt3 : i < n3)
    (hQ : ∀ x1 x2 x3 h' tk x' b', P1 i x1 → P2 i x2 → P3 i x3 → IsZipX h' z TI TO x' b' → (x' = .none ∨ ∃ T : Addr, x' = rawInt T) → (∃ a1 a2 a3, IsTupOf3 h' TO a1 a2 a3) → St1 (i + 1) h' → St2 (i + 1) h' → St3 (i + 1) h' → IsTupOf3 h' s.heap.objs.size x1 x2 x3 → h'.objs.size = s.heap.objs.size + 1 →
      (∀ c o, c ≠ z → c ≠ TO → c ≠ i1 → c ≠ i2 → c ≠ i3 → s.heap.get? c = some o → h'.get? c = some o) → Q (.ref s.heap.objs.size) { s with heap := h', toks := tk }) :
    wpAny (model prog w) A (Builtin.«zip.__next__» ⟨[.ref z], []⟩) (fun fin s' => ∃ v, fin = .done (.ret v) ∧ Q v s') E s := by
  obtain ⟨hp, g, d, tk0, os⟩ := s
  show wpAny _ _ (field (.ref z) 2 >>= _) _ _ _
  refine wpAny_bind (wpAny_field hz rfl (x := .bool false) rfl ?_)
  show wpAny _ _ (field (.ref z) 3 >>= _) _ _ _
  refine wpAny_bind (wpAny_field hz rfl (x := .ref TI) rfl (wpAny_bind (wpAny_seqItems hTI rfl ?_)))
  show wpAny _ _ (Builtin.SmallTypes.ownedTupleIsFree (.ref z) >>= _) _ _ _
  refine wpAny_bind (zipX_free hz hx ?_ fun g0 hz0 hs0 => ?_)
  · simp only [if_true]
    refine wpAny_bind (wpAny_rule (wpAny_bind (wpAny_field hz rfl (x := .ref TO) rfl ?_)))
    refine wpAny_bind (wpAny_setField_rec hz (by simp) fun g0 hz0 hs0 => ?_)
    replace hz0 : IsZipX g0 z TI TO .ellipsis b := hz0
    replace hs0 : Heap.SameBut z hp g0 := hs0
    refine wpAny_bind ?_
    simp only [List.zipIdx_cons, List.zipIdx_nil, List.forIn_cons, List.forIn_nil]
    refine wpAny_bind (wpAny_bind (wpAny_onRaise ?_))
    show wpAny _ _ (Builtin.SmallTypes.nextOf (.ref i1) >>= _) _ _ ⟨g0, g, d, tk0, os⟩
    refine wpAny_bind (D1.item i _ _ _ hlt1 (D1.over st1 hs0 S.zf1) fun x1 p1 tk1 hx1 sn1 hp1 => wpAny_pure ?_)
    replace hp1 : Heap.SameBut i1 g0 p1 := hp1
    have hU1 : IsTupOf3 p1 TO a1 a2 a3 := hp1.extBut _ _ S.Ti1 (hs0.extBut _ _ S.TOz hTO)
    refine wpAny_bind (wpAny_seqItems (s := ⟨p1, g, d, tk1, os⟩) hU1 rfl (wpAny_bind (updateSeq_IsTupOf3 (s := ⟨p1, g, d, tk1, os⟩) hU1 fun g1 hT1 hs1 => ?_)))
    replace hT1 : IsTupOf3 g1 TO x1 a2 a3 := hT1
    replace hs1 : Heap.SameBut TO p1 g1 := hs1
    refine wpAny_bind (wpAny_letGo (wpAny_pure ?_))
    refine wpAny_bind (wpAny_bind (wpAny_onRaise ?_))
    show wpAny _ _ (Builtin.SmallTypes.nextOf (.ref i2) >>= _) _ _ ⟨g1, g, d, tk1, os⟩
    refine wpAny_bind (D2.item i _ _ _ hlt2 (D2.over (D2.over (D2.over st2 hs0 S.zf2) hp1 S.sep1_2) hs1 S.Tf2) fun x2 p2 tk2 hx2 sn2 hp2 => wpAny_pure ?_)
    replace hp2 : Heap.SameBut i2 g1 p2 := hp2
    have hU2 : IsTupOf3 p2 TO x1 a2 a3 := hp2.extBut _ _ S.Ti2 hT1
    refine wpAny_bind (wpAny_seqItems (s := ⟨p2, g, d, tk2, os⟩) hU2 rfl (wpAny_bind (updateSeq_IsTupOf3 (s := ⟨p2, g, d, tk2, os⟩) hU2 fun g2 hT2 hs2 => ?_)))
    replace hT2 : IsTupOf3 g2 TO x1 x2 a3 := hT2
    replace hs2 : Heap.SameBut TO p2 g2 := hs2
    refine wpAny_bind (wpAny_letGo (wpAny_pure ?_))
    refine wpAny_bind (wpAny_bind (wpAny_onRaise ?_))
    show wpAny _ _ (Builtin.SmallTypes.nextOf (.ref i3) >>= _) _ _ ⟨g2, g, d, tk2, os⟩
    refine wpAny_bind (D3.item i _ _ _ hlt3 (D3.over (D3.over (D3.over (D3.over (D3.over st3 hs0 S.zf3) hp1 S.sep1_3) hs1 S.Tf3) hp2 S.sep2_3) hs2 S.Tf3) fun x3 p3 tk3 hx3 sn3 hp3 => wpAny_pure ?_)
    replace hp3 : Heap.SameBut i3 g2 p3 := hp3
    have hU3 : IsTupOf3 p3 TO x1 x2 a3 := hp3.extBut _ _ S.Ti3 hT2
    refine wpAny_bind (wpAny_seqItems (s := ⟨p3, g, d, tk3, os⟩) hU3 rfl (wpAny_bind (updateSeq_IsTupOf3 (s := ⟨p3, g, d, tk3, os⟩) hU3 fun g3 hT3 hs3 => ?_)))
    replace hT3 : IsTupOf3 g3 TO x1 x2 x3 := hT3
    replace hs3 : Heap.SameBut TO p3 g3 := hs3
    refine wpAny_bind (wpAny_letGo (wpAny_pure (wpAny_pure ?_)))
    refine wpAny_bind (wpAny_seqItems (s := ⟨g3, g, d, tk3, os⟩) hT3 rfl (wpAny_bind (wpAny_newTuple ?_)))
    have hsz : g3.objs.size = hp.objs.size := by rw [hs3.1, hp3.1, hs2.1, hp2.1, hs1.1, hp1.1, hs0.1]
    have hzz : IsZipX g3 z TI TO .ellipsis b := hs3.extBut _ _ S.TOz.symm (hp3.extBut _ _ S.zi3 (hs2.extBut _ _ S.TOz.symm (hp2.extBut _ _ S.zi2 (hs1.extBut _ _ S.TOz.symm (hp1.extBut _ _ S.zi1 hz0)))))
    have hkk : ∀ c o, c ≠ z → c ≠ TO → c ≠ i1 → c ≠ i2 → c ≠ i3 → hp.get? c = some o → g3.get? c = some o := fun c o cz cT c1 c2 c3 e => hs3.extBut _ _ cT (hp3.extBut _ _ c3 (hs2.extBut _ _ cT (hp2.extBut _ _ c2 (hs1.extBut _ _ cT (hp1.extBut _ _ c1 (hs0.extBut _ _ cz e))))))
    have hj1 : St1 (i + 1) g3 := (D1.over (D1.over (D1.over (D1.over (D1.over sn1 hs1 S.Tf1) hp2 S.sep2_1) hs2 S.Tf1) hp3 S.sep3_1) hs3 S.Tf1)
    have hj2 : St2 (i + 1) g3 := (D2.over (D2.over (D2.over sn2 hs2 S.Tf2) hp3 S.sep3_2) hs3 S.Tf2)
    have hj3 : St3 (i + 1) g3 := (D3.over sn3 hs3 S.Tf3)
    have hzlt : z < g3.objs.size := Heap.lt_size hzz
    show wpAny _ _ (Builtin.SmallTypes.ownedTupleHandOut (.ref z) (.ref g3.objs.size) >>= _) _ _ ⟨g3.push { cls := .type "tuple", data := .seq #[x1, x2, x3] }, g, d, tk3, os⟩
    refine wpAny_bind ?_
    unfold Builtin.SmallTypes.ownedTupleHandOut
    have hz6 : IsZipX (g3.push { cls := .type "tuple", data := .seq #[x1, x2, x3] }) z TI TO .ellipsis b := Heap.get?_push_of_some _ hzz
    refine wpAny_bind (wpAny_setField_rec hz6 (by simp) fun h7 hz7 hs7 => ?_)
    replace hz7 : IsZipX h7 z TI TO (rawInt g3.objs.size) b := hz7
    refine wpAny_setField_rec hz7 (by simp) fun h8 hz8 hs8 => ?_
    replace hz8 : IsZipX h8 z TI TO (rawInt g3.objs.size) false := hz8
    replace hs7 : Heap.SameBut z (g3.push { cls := .type "tuple", data := .seq #[x1, x2, x3] }) h7 := hs7
    replace hs8 : Heap.SameBut z h7 h8 := hs8
    have up : ∀ c o, c ≠ z → g3.get? c = some o → h8.get? c = some o := fun c o c1 e => hs8.extBut _ _ c1 (hs7.extBut _ _ c1 (Heap.get?_push_of_some _ e))
    have hT8 : IsTupOf3 h8 g3.objs.size x1 x2 x3 := hs8.extBut _ _ (Nat.ne_of_gt hzlt) (hs7.extBut _ _ (Nat.ne_of_gt hzlt) (Heap.get?_push_size _ rfl))
    have hz9 : h8.objs.size = g3.objs.size + 1 := by rw [hs8.1, hs7.1, Heap.size_push]
    rw [hsz] at hz8 hT8 hz9
    refine wpAny_pure ⟨_, rfl, ?_⟩
    show Q (.ref g3.objs.size) ⟨h8, g, d, tk3, os⟩
    rw [hsz]
    exact hQ x1 x2 x3 h8 tk3 _ _ hx1 hx2 hx3 hz8 (.inr ⟨_, rfl⟩) ⟨_, _, _, up _ _ S.TOz hT3⟩ (D1.frame _ _ _ hj1 fun b hb o e => up b o (fun q => S.zf1 (q ▸ hb)) e) (D2.frame _ _ _ hj2 fun b hb o e => up b o (fun q => S.zf2 (q ▸ hb)) e) (D3.frame _ _ _ hj3 fun b hb o e => up b o (fun q => S.zf3 (q ▸ hb)) e) hT8 hz9 fun c o cz cT c1 c2 c3 e => up c o cz (hkk c o cz cT c1 c2 c3 e)
  · replace hs0 : Heap.SameBut z hp g0 := hs0
    simp only [Bool.false_eq_true, if_false]
    refine wpAny_bind ?_
    rw [← Array.forIn_toList]
    simp only [List.forIn_cons, List.forIn_nil]
    refine wpAny_bind (wpAny_bind (wpAny_holding ?_))
    show wpAny _ _ (Builtin.SmallTypes.nextOf (.ref i1) >>= _) _ _ ⟨g0, g, d, tk0, os⟩
    refine wpAny_bind (D1.item i _ _ _ hlt1 (D1.over st1 hs0 S.zf1) fun x1 p1 tk1 hx1 sn1 hp1 => wpAny_pure ?_)
    replace hp1 : Heap.SameBut i1 g0 p1 := hp1
    refine wpAny_pure ?_
    refine wpAny_bind (wpAny_bind (wpAny_holding ?_))
    show wpAny _ _ (Builtin.SmallTypes.nextOf (.ref i2) >>= _) _ _ ⟨p1, g, d, tk1, os⟩
    refine wpAny_bind (D2.item i _ _ _ hlt2 (D2.over (D2.over st2 hs0 S.zf2) hp1 S.sep1_2) fun x2 p2 tk2 hx2 sn2 hp2 => wpAny_pure ?_)
    replace hp2 : Heap.SameBut i2 p1 p2 := hp2
    refine wpAny_pure ?_
    refine wpAny_bind (wpAny_bind (wpAny_holding ?_))
    show wpAny _ _ (Builtin.SmallTypes.nextOf (.ref i3) >>= _) _ _ ⟨p2, g, d, tk2, os⟩
    refine wpAny_bind (D3.item i _ _ _ hlt3 (D3.over (D3.over (D3.over st3 hs0 S.zf3) hp1 S.sep1_3) hp2 S.sep2_3) fun x3 p3 tk3 hx3 sn3 hp3 => wpAny_pure ?_)
    replace hp3 : Heap.SameBut i3 p2 p3 := hp3
    refine wpAny_pure (wpAny_pure ?_)
    show wpAny _ _ (newTuple [x1, x2, x3] >>= _) _ _ ⟨p3, g, d, tk3, os⟩
    refine wpAny_bind (wpAny_newTuple ?_)
    have hsz : p3.objs.size = hp.objs.size := by rw [hp3.1, hp2.1, hp1.1, hs0.1]
    have hzz : IsZipX p3 z TI TO x true := hp3.extBut _ _ S.zi3 (hp2.extBut _ _ S.zi2 (hp1.extBut _ _ S.zi1 hz0))
    have hj1 : St1 (i + 1) p3 := D1.over (D1.over sn1 hp2 S.sep2_1) hp3 S.sep3_1
    have hj2 : St2 (i + 1) p3 := D2.over sn2 hp3 S.sep3_2
    have hTO2 : IsTupOf3 p3 TO a1 a2 a3 := hp3.extBut _ _ S.Ti3 (hp2.extBut _ _ S.Ti2 (hp1.extBut _ _ S.Ti1 (hs0.extBut _ _ S.TOz hTO)))
    refine wpAny_pure ⟨_, rfl, ?_⟩
    show Q (.ref p3.objs.size) _
    rw [hsz]
    refine hQ x1 x2 x3 (p3.push { cls := .type "tuple", data := .seq #[x1, x2, x3] }) tk3 _ _ hx1 hx2 hx3 (Heap.get?_push_of_some _ hzz) hx ⟨_, _, _, Heap.get?_push_of_some _ hTO2⟩ (D1.frame _ _ _ hj1 fun b hb o e => Heap.get?_push_of_some _ e) (D2.frame _ _ _ hj2 fun b hb o e => Heap.get?_push_of_some _ e) (D3.frame _ _ _ sn3 fun b hb o e => Heap.get?_push_of_some _ e) ?_ (by rw [Heap.size_push, hsz]) fun c o cz cT c1 c2 c3 e => Heap.get?_push_of_some _ (hp3.extBut _ _ c3 (hp2.extBut _ _ c2 (hp1.extBut _ _ c1 (hs0.extBut _ _ cz e))))
    rw [← hsz]
    exact Heap.get?_push_size _ rfl
theorem zipX3_end {Q : Fin → Shared → Prop} (S : ZipSep3 z TI TO i1 i2 i3 fp1 fp2 fp3) (D1 : Draws prog w A i1 fp1 n1 P1 St1)
    (hz : IsZipX s.heap z TI TO x b) (hx : x = .none ∨ ∃ T : Addr, x = rawInt T) (hTI : IsTupOf3 s.heap TI (.ref i1) (.ref i2) (.ref i3)) (st1 : St1 n1 s.heap)
    (hE : ∀ h' e, (∀ c o, c ≠ z → c ≠ i1 → s.heap.get? c = some o → h'.get? c = some o) → (∃ o, h'.get? e = some o ∧ o.cls = .type "StopIteration") → E (.ref e) { s with heap := h' }) :
    wpAny (model prog w) A (Builtin.«zip.__next__» ⟨[.ref z], []⟩) Q E s := by
  obtain ⟨hp, g, d, tk0, os⟩ := s
  show wpAny _ _ (field (.ref z) 2 >>= _) _ _ _
  refine wpAny_bind (wpAny_field hz rfl (x := .bool false) rfl ?_)
  show wpAny _ _ (field (.ref z) 3 >>= _) _ _ _
  refine wpAny_bind (wpAny_field hz rfl (x := .ref TI) rfl ?_)
  refine wpAny_bind (wpAny_seqItems hTI rfl ?_)
  show wpAny _ _ (Builtin.SmallTypes.ownedTupleIsFree (.ref z) >>= _) _ _ _
  refine wpAny_bind (zipX_free hz hx ?_ fun g0 hz0 hs0 => ?_)
  · simp only [if_true]
    refine wpAny_bind (wpAny_rule (wpAny_bind (wpAny_field hz rfl (x := .ref TO) rfl ?_)))
    refine wpAny_bind (wpAny_setField_rec hz (by simp) fun g0 hz0 hs0 => ?_)
    replace hz0 : IsZipX g0 z TI TO .ellipsis b := hz0
    replace hs0 : Heap.SameBut z hp g0 := hs0
    refine wpAny_bind ?_
    simp only [List.zipIdx_cons, List.zipIdx_nil, List.forIn_cons, List.forIn_nil]
    refine wpAny_bind (wpAny_bind (wpAny_onRaise ?_))
    show wpAny _ _ (Builtin.SmallTypes.nextOf (.ref i1) >>= _) _ _ ⟨g0, g, d, tk0, os⟩
    refine wpAny_bind (D1.done ⟨g0, g, d, tk0, os⟩ _ _ (D1.over st1 hs0 S.zf1) fun q e hq he => ?_)
    replace hq : Heap.ExtBut i1 g0 q := hq
    obtain ⟨oe, hoe, hce⟩ := he
    replace hoe : q.get? e = some oe := hoe
    have hzq : IsZipX q z TI TO .ellipsis b := hq _ _ S.zi1 hz0
    have hez : e ≠ z := fun y => by subst y; rw [hzq] at hoe; cases hoe; simp at hce
    refine wpAny_setField_rec (s := ⟨q, g, d, tk0, os⟩) hzq (by simp) fun q' _ hq' => ?_
    replace hq' : Heap.SameBut z q q' := hq'
    exact hE q' e (fun c o cz c1 y => hq'.extBut _ _ cz (hq _ _ c1 (hs0.extBut _ _ cz y))) ⟨oe, hq'.extBut _ _ hez hoe, hce⟩
  · replace hs0 : Heap.SameBut z hp g0 := hs0
    simp only [Bool.false_eq_true, if_false]
    refine wpAny_bind ?_
    rw [← Array.forIn_toList]
    simp only [List.forIn_cons, List.forIn_nil]
    refine wpAny_bind (wpAny_bind (wpAny_holding ?_))
    show wpAny _ _ (Builtin.SmallTypes.nextOf (.ref i1) >>= _) _ _ ⟨g0, g, d, tk0, os⟩
    refine wpAny_bind (D1.done ⟨g0, g, d, tk0, os⟩ _ _ (D1.over st1 hs0 S.zf1) fun q e hq he => ?_)
    replace hq : Heap.ExtBut i1 g0 q := hq
    exact hE q e (fun c o cz c1 y => hq _ _ c1 (hs0.extBut _ _ cz y)) he
end
section
variable {prog : Program} {w : World} {A : Around} {E : Value → Shared → Prop} {s : Shared}
theorem next_zip {z TI TO : Addr} {x : Value} {b : Bool} {Q : Option Value → Shared → Prop} (hz : IsZipX s.heap z TI TO x b)
    (h : ∀ E' : Value → Shared → Prop, wpAny (model prog w) A.in1 (Builtin.«zip.__next__» ⟨[.ref z], []⟩) (fun fin s' => ∃ v, fin = .done (.ret v) ∧ Q (some v) s') E' s) : wpAny (model prog w) A (pyNext (.ref z)) Q E s := by
  have hT : s.TypeIs (.ref z) "zip" := ⟨_, hz, rfl⟩
  unfold pyNext
  refine wpAny_bind (wpAny_attempt (wpAny_callSpecial?_slot (name := Str.ofString "__next__") hT F.slot_zip_next
    (wpAny_call_entry F.slot_zip_next hT F.entry_zip_next ?_ (F.args_zip_next_1 _))))
  refine wpAny_mono (h _) (fun fin s' ⟨v, e, q⟩ => ?_) fun _ _ y => y
  subst e
  exact ⟨v, rfl, wpAny_pure q⟩
theorem next_zip3_end {z TI TO i1 i2 i3 : Addr} {x : Value} {b : Bool} {fp1 fp2 fp3 : List Addr} {n1 : Nat} {P1 : Nat → Value → Prop} {St1 : Nat → Heap → Prop} {Q : Option Value → Shared → Prop}
    (S : ZipSep3 z TI TO i1 i2 i3 fp1 fp2 fp3) (D1 : ∀ A' : Around, A'.handled = none → Draws prog w A' i1 fp1 n1 P1 St1) (hh : A.handled = none) (hz : IsZipX s.heap z TI TO x b) (hx : x = .none ∨ ∃ T : Addr, x = rawInt T) (hTI : IsTupOf3 s.heap TI (.ref i1) (.ref i2) (.ref i3)) (st1 : St1 n1 s.heap)
    (hQ : ∀ h', (∀ c o, c ≠ z → c ≠ i1 → s.heap.get? c = some o → h'.get? c = some o) → Q none { s with heap := h' }) : wpAny (model prog w) A (pyNext (.ref z)) Q E s := by
  have hT : s.TypeIs (.ref z) "zip" := ⟨_, hz, rfl⟩
  unfold pyNext
  refine wpAny_bind (wpAny_attempt (wpAny_callSpecial?_slot (name := Str.ofString "__next__") hT F.slot_zip_next
    (wpAny_call_entry F.slot_zip_next hT F.entry_zip_next ?_ (F.args_zip_next_1 _))))
  refine zipX3_end S (D1 _ hh) hz hx hTI st1 fun h' x' he' hx' => ?_
  obtain ⟨o, ho, hc⟩ := hx'
  refine wpAny_bind (wpAny_isInstance (T := "StopIteration") (b := true) ⟨o, ho, hc⟩ isSubtype_stop ?_)
  exact wpAny_pure (hQ _ he')
end
end Lm

/-! medians -/
namespace Lm
open PySem PySem.Spec PyProof.Rows L2
def mid3 (a b c : Int) : Int := if a ≤ b then (if b ≤ c then b else if a ≤ c then c else a) else (if a ≤ c then a else if b ≤ c then c else b)
theorem mid_sorted {a b c : Int} {ns : List Int} (h : ns.Perm [a, b, c]) (s : ns.Pairwise (· ≤ ·)) : ∃ x z, ns = [x, mid3 a b c, z] := by
  have hl := h.length_eq
  obtain ⟨x, y, z, rfl⟩ : ∃ x y z, ns = [x, y, z] := match ns, hl with | [x, y, z], _ => ⟨x, y, z, rfl⟩
  have e := perm_sum h
  have hx : x = a ∨ x = b ∨ x = c := by simpa using h.mem_iff.mp (show x ∈ [x, y, z] by simp)
  have hy : y = a ∨ y = b ∨ y = c := by simpa using h.mem_iff.mp (show y ∈ [x, y, z] by simp)
  have hz : z = a ∨ z = b ∨ z = c := by simpa using h.mem_iff.mp (show z ∈ [x, y, z] by simp)
  simp at s
  simp at e
  refine ⟨x, z, ?_⟩
  have : y = mid3 a b c := by
    unfold mid3
    rcases hx with rfl | rfl | rfl <;> rcases hy with rfl | rfl | rfl <;> rcases hz with rfl | rfl | rfl <;> (repeat' split) <;> omega
  rw [this]
/-- x is in the middle of these -/
def midQ (ns : List Int) (x : Int) : Bool := decide (2 ≤ (ns.filter fun o => decide (o ≤ x)).length) && decide (2 ≤ (ns.filter fun o => decide (x ≤ o)).length)
theorem midQ_eq {a b c x : Int} (hx : x = a ∨ x = b ∨ x = c) (h : midQ [a, b, c] x = true) : x = mid3 a b c := by
  unfold midQ at h
  simp only [List.filter_cons, List.filter_nil, Bool.and_eq_true, decide_eq_true_eq] at h
  obtain ⟨h1, h2⟩ := h
  unfold mid3
  rcases hx with rfl | rfl | rfl <;> (repeat' split at h1) <;> (repeat' split at h2) <;> (simp at h1 h2) <;> (repeat' split) <;> omega
theorem midQ_mid (a b c : Int) : midQ [a, b, c] (mid3 a b c) = true ∧ (mid3 a b c = a ∨ mid3 a b c = b ∨ mid3 a b c = c) := by
  refine ⟨?_, ?_⟩
  · unfold midQ mid3
    simp only [List.filter_cons, List.filter_nil, Bool.and_eq_true, decide_eq_true_eq]
    (repeat' split) <;> (first | (constructor <;> simp <;> omega) | omega | (exfalso; omega) | (constructor <;> (repeat' split) <;> simp <;> omega))
  · unfold mid3
    (repeat' split) <;> simp
def medI (as bs cs : List Int) : List Int := (List.range as.length).map fun i => mid3 (as.getD i 0) (bs.getD i 0) (cs.getD i 0)
def sp_medians (K : PySem.W.Frag) : Sp := spD K fun ds k d => ∃ (as bs cs : List Int) (v b : Int), ds = [.tuple (as.map .int), .tuple (bs.map .int), .tuple (cs.map .int)] ∧ Alc as v b ∧ Alc bs v b ∧ Alc cs v b ∧ 1 ≤ v ∧ v ≤ 5 ∧ b ≤ 20 ∧ k = .v ∧ d = .tuple ((medI as bs cs).map .int)
def sp__law_middle (K : PySem.W.Frag) : Sp := spD K fun ds k d => ∃ a b c : Int, ds = [.list ([a, b, c].map .int)] ∧ k = .v ∧ d = .int (mid3 a b c)
theorem mid_12 (a b c : Int) : mid3 a b c = mid3 b a c := by unfold mid3; (repeat' split) <;> omega
theorem mid_23 (a b c : Int) : mid3 a b c = mid3 a c b := by unfold mid3; (repeat' split) <;> omega
theorem mid_aba (a b : Int) : mid3 a b a = a := by unfold mid3; (repeat' split) <;> omega
variable {as bs cs : List Int}
theorem med_12 (h : as.length = bs.length) : medI as bs cs = medI bs as cs := by
  unfold medI
  rw [h]
  exact List.map_congr_left fun i _ => mid_12 _ _ _
theorem med_23 : medI as bs cs = medI as cs bs := List.map_congr_left fun i _ => mid_23 _ _ _
theorem med_aba : medI as bs as = as := by
  unfold medI
  apply List.ext_getElem
  · simp
  · intro i h1 h2
    simp only [List.getElem_map, List.getElem_range]
    rw [mid_aba, gd_lt h2]
theorem medI_len : (medI as bs cs).length = as.length := by simp [medI]
theorem s_setIN {c : Ct} {Γ : List (Option Rs)} {te ta : TE} {k ka : Kd} {P : Out → Prop} {n m : Nat} {i : Int} {ds : List PyData} (Pd : PyData → Prop) (hx : Γ[n]? = some (some (.o (.list ds)))) (hds : flatAll ds = true) (h : EvN c te Γ k Pd) (hf : ∀ d, Pd d → flatD d = true) (hi : Ev c ta Γ ka (.int i)) (hj : ixN ds.length i = some m) (p : ∀ d, Pd d → P (.nx (Γ.set n (some (.o (.list (ds.set m d))))))) : Sd c (tAsg te (gSub (tVar n) ta rSetL)) Γ P := fun H0 O H σ D e s =>
  h H0 O H σ e _ fun v d H2 pd r rs => by
    have e2 := e.on r
    obtain ⟨q, xs, f, hq, hp, fa, qf, qO, _⟩ := e2.write (es := ds.set m d) hx
    refine ⟨.ref q, hq, hi H0 O H2 σ e2 _ fun w H3 r3 ws => ?_⟩
    have e3 := e2.on r3
    obtain ⟨q', xs', f', hq', hp', fa', qf', qO', wr⟩ := e3.write (es := ds.set m d) hx
    have : q' = q := by rw [hq] at hq'; cases hq'; rfl
    subst this
    have bo : Bo c H3 v d := Res.bo e (Res.on e r r3 rs)
    have lx : xs'.length = ds.length := (fa'.bo fun a ha => e.okO a (qO' a ha)).len
    refine ⟨q', xs', i, m, rfl, (Res.bo e2 ws).int', hp', by rw [lx]; exact hj, s _ (p d pd) O _ σ (wr _ ?_)⟩
    obtain ⟨rfl, ba⟩ := fa'.flat0 hds
    exact (FoAll.set0 fa' (hf d pd) bo).up (fun _ _ s => sqT_upd hp' s) fun a ha => nomatch ha
theorem flat3 (as bs cs : List Int) : flatAll [.tuple (as.map .int), .tuple (bs.map .int), .tuple (cs.map .int)] = true := by simp [flatAll, flatD, flatAll_ints]
theorem mem3 {α : Type} {P : α → Prop} {a b c : α} (ha : P a) (hb : P b) (hc : P c) : ∀ x ∈ [a, b, c], P x := fun x hx => by
  rcases List.mem_cons.mp hx with q | q
  · rw [q]; exact ha
  · exact mem2 hb hc x q
end Lm

/-! the least churn is what goes over -/
namespace Lm
open PySem PySem.Spec PyProof.Rows L2
variable {f g h ns ms : List Int} {v : Int}
theorem ne1_nn (a b : Int) : 0 ≤ ne1 a b := by unfold ne1; split <;> omega
theorem churn_tri : ∀ {as bs cs : List Int}, as.length = bs.length → bs.length = cs.length → zs ne1 as cs ≤ zs ne1 as bs + zs ne1 bs cs
  | [], [], [], _, _ => by decide
  | a :: as, b :: bs, c :: cs, h, g => by
    have := churn_tri (as := as) (bs := bs) (cs := cs) (by simpa using h) (by simpa using g)
    rw [zs_cons, zs_cons, zs_cons]
    have : ne1 a c ≤ ne1 a b + ne1 b c := by unfold ne1; (repeat' split) <;> omega
    omega
  | [], _ :: _, _, h, _ => by simp at h
  | _ :: _, [], _, h, _ => by simp at h
  | [], [], _ :: _, _, h => by simp at h
  | _ :: _, _ :: _, [], _, h => by simp at h
theorem churn_self : ∀ {as : List Int}, zs ne1 as as = 0
  | [] => rfl
  | a :: as => by rw [zs_cons, churn_self (as := as)]; simp [ne1]
theorem churn_set : ∀ {as : List Int} {k : Nat} {x : Int}, zs ne1 as (as.set k x) ≤ 1
  | [], _, _ => by show (0 : Int) ≤ 1; decide
  | a :: as, 0, x => by
    show zs ne1 (a :: as) (x :: as) ≤ 1
    rw [zs_cons, churn_self]
    unfold ne1
    split <;> omega
  | a :: as, k + 1, x => by
    show zs ne1 (a :: as) (a :: as.set k x) ≤ 1
    rw [zs_cons]
    have := churn_set (as := as) (k := k) (x := x)
    simp [ne1]
    exact this
/-- the churn is never less than what goes over -/
theorem churn_ge (hf : Asg f v) (hg : Asg g v) (hl : f.length = g.length) (hv : 0 ≤ v) : trI (countsI f v) (countsI g v) ≤ zs ne1 f g := by
  have rz : ∀ p ∈ f.zip g, 0 ≤ p.1 ∧ p.1 < v := fun p hp => hf.rng _ (List.of_mem_zip hp).1
  rw [zs_neZ hl, ← out_sum v.toNat (z := f.zip g) (fun p hp => by have := rz p hp; omega), trI_counts hv]
  refine (sum_eq_iff fun i _ => ?_).1
  have := count_diff i hl
  have := out_nn i (f.zip g)
  have := inn_nn i (f.zip g)
  unfold t0
  split <;> omega
theorem count_set : ∀ {as : List Int} {k : Nat} {x i : Int}, k < as.length → ((as.set k x).count i : Int) = as.count i - (if as.getD k 0 = i then 1 else 0) + (if x = i then 1 else 0)
  | [], _, _, _, h => by simp at h
  | a :: as, 0, x, i, _ => by
    show (((x :: as).count i : Nat) : Int) = ((a :: as).count i : Nat) - (if a = i then 1 else 0) + (if x = i then 1 else 0)
    rw [List.count_cons, List.count_cons]
    by_cases h1 : a = i <;> by_cases h2 : x = i <;> simp [h1, h2]
  | a :: as, k + 1, x, i, h => by
    have := count_set (as := as) (k := k) (x := x) (i := i) (by simpa using h)
    show (((a :: as.set k x).count i : Nat) : Int) = ((a :: as).count i : Nat) - (if as.getD k 0 = i then 1 else 0) + (if x = i then 1 else 0)
    rw [List.count_cons, List.count_cons]
    omega
/-- an item above, if not all are the same and the sums are -/
theorem some_gt : ∀ {as bs : List Int}, as.length = bs.length → zs t0 as bs ≠ 0 → ∃ i, i < as.length ∧ bs.getD i 0 < as.getD i 0
  | [], [], _, h => absurd rfl h
  | a :: as, b :: bs, hl, h => by
    by_cases q : b < a
    · exact ⟨0, by simp, q⟩
    · rw [zs_cons] at h
      have e : t0 a b = 0 := by unfold t0; split <;> omega
      obtain ⟨i, hi, e2⟩ := some_gt (as := as) (bs := bs) (by simpa using hl) (by omega)
      exact ⟨i + 1, by simpa using hi, e2⟩
  | [], _ :: _, h, _ => by simp at h
  | _ :: _, [], h, _ => by simp at h
theorem sum_two (a b : Int → Int) (i j : Int) (hij : i ≠ j) : ∀ {l : List Int}, l.Nodup → (∀ x ∈ l, x ≠ i → x ≠ j → a x = b x) → i ∈ l → j ∈ l → (l.map a).sum = (l.map b).sum + (a i - b i) + (a j - b j) := by
  have none : ∀ {l : List Int}, (∀ x ∈ l, a x = b x) → (l.map a).sum = (l.map b).sum := fun {l} h => by rw [List.map_congr_left h]
  have one : ∀ {l : List Int} (i : Int), l.Nodup → (∀ x ∈ l, x ≠ i → a x = b x) → i ∈ l → (l.map a).sum = (l.map b).sum + (a i - b i) := by
    intro l i
    induction l with
    | nil => intro _ _ h; simp at h
    | cons x l ih =>
      intro nd h hi
      obtain ⟨hx, nd2⟩ := List.nodup_cons.mp nd
      simp only [List.map_cons, List.sum_cons]
      rcases List.mem_cons.mp hi with q | q
      · subst q
        have := none (l := l) fun y hy => h y (by simp [hy]) fun z => hx (z ▸ hy)
        omega
      · have hne : x ≠ i := fun z => hx (z ▸ q)
        have := ih nd2 (fun y hy => h y (by simp [hy])) q
        have := h x (by simp) hne
        omega
  intro l
  induction l with
  | nil => intro _ _ h; simp at h
  | cons x l ih =>
    intro nd h hi hj
    obtain ⟨hx, nd2⟩ := List.nodup_cons.mp nd
    simp only [List.map_cons, List.sum_cons]
    rcases List.mem_cons.mp hi with q | q
    · subst q
      have hjl : j ∈ l := by
        rcases List.mem_cons.mp hj with w | w
        · exact absurd w.symm hij
        · exact w
      have := one j nd2 (fun y hy hne => h y (by simp [hy]) (fun z => hx (by rw [← z]; exact hy)) hne) hjl
      omega
    · rcases List.mem_cons.mp hj with w | w
      · subst w
        have := one i nd2 (fun y hy hne => h y (by simp [hy]) hne (fun z => hx (by rw [← z]; exact hy))) q
        omega
      · have := ih nd2 (fun y hy => h y (by simp [hy])) q w
        have := h x (by simp) (fun z => hx (z ▸ q)) (fun z => hx (z ▸ w))
        omega
/-- an assignment with the wanted counts, as near as what goes over -/
theorem nearest (hv : 0 ≤ v) : ∀ (n : Nat) (f as : List Int), Asg f v → Alc as v f.length → trI (countsI f v) as = n → ∃ g, Asg g v ∧ g.length = f.length ∧ countsI g v = as ∧ zs ne1 f g ≤ n
  | 0, f, as, hf, ha, h => by
    have e := (hf.alc hv).tr_zero ha
    rw [h] at e
    exact ⟨f, hf, rfl, of_decide_eq_true (e.symm.trans (by simp)), by rw [churn_self]; omega⟩
  | n + 1, f, as, hf, ha, h => by
    have hc := hf.alc hv
    have cl : (countsI f v).length = v.toNat := countsI_len
    have la : as.length = v.toNat := by have := ha.len; omega
    have l1 : (countsI f v).length = as.length := by omega
    have h2 := hc.tr_comm ha
    rw [trI_zs l1] at h
    rw [trI_zs l1.symm, trI_zs l1, h] at h2
    obtain ⟨i, hi, gi⟩ := some_gt l1 (by omega)
    obtain ⟨j, hj, gj⟩ := some_gt l1.symm (by omega)
    rw [cl] at hi
    rw [la] at hj
    have ci := countsI_get (ns := f) (v := v) (i := i) (by omega)
    have cj := countsI_get (ns := f) (v := v) (i := j) (by omega)
    have ne : (i : Int) ≠ j := fun z => by
      have : i = j := by omega
      subst this
      omega
    rw [ci] at gi
    rw [cj] at gj
    have a0 : 0 ≤ as.getD i 0 := ha.nn _ (gd_mem (by omega))
    have hm : (i : Int) ∈ f := List.count_pos_iff.mp (by omega)
    obtain ⟨k, hk, ek⟩ := List.getElem_of_mem hm
    have ek2 : f.getD k 0 = i := by rw [gd_lt hk, ek]
    have hg : Asg (f.set k j) v := ⟨by rw [List.length_set]; exact hf.len, fun n hn => by
      rcases List.mem_or_eq_of_mem_set hn with q | q
      · exact hf.rng n q
      · rw [q]; omega⟩
    have ha' : Alc as v (f.set k (j : Int)).length := by rw [List.length_set]; exact ha
    have cnt : ∀ x : Int, ((f.set k (j : Int)).count x : Int) = f.count x - (if (i : Int) = x then 1 else 0) + (if (j : Int) = x then 1 else 0) := fun x => by
      rw [count_set hk, ek2]
    have T : trI (countsI (f.set k (j : Int)) v) as = n := by
      have up : ∀ w : List Int, trI (countsI w v) as = ((upI 0 v.toNat).map fun x => t0 (w.count x) (as.getD x.toNat 0)).sum := fun w => by
        rw [trI_up (by rw [countsI_len]; omega), countsI_len]
        congr 1
        apply List.map_congr_left
        intro x hx
        have r := mem_upI.mp hx
        have := countsI_get (ns := w) (v := v) (i := x.toNat) (by omega)
        have e : ((x.toNat : Nat) : Int) = x := by omega
        rw [this, e]
      have e1 := up (f.set k (j : Int))
      have e2 := up f
      rw [trI_zs l1, h] at e2
      have e3 := sum_two (fun x => t0 ((f.set k (j : Int)).count x) (as.getD x.toNat 0)) (fun x => t0 (f.count x) (as.getD x.toNat 0)) i j ne (nodup_upI v.toNat) (fun x _ hxi hxj => by
        have := cnt x
        rw [if_neg (fun z => hxi z.symm), if_neg (fun z => hxj z.symm)] at this
        show t0 _ _ = t0 _ _
        rw [this]
        congr 1) (mem_upI.mpr ⟨by omega, by omega⟩) (mem_upI.mpr ⟨by omega, by omega⟩)
      have ni := cnt i
      have nj := cnt j
      rw [if_pos rfl, if_neg (fun z => ne z.symm)] at ni
      rw [if_neg ne, if_pos rfl] at nj
      have xi : ((i : Int)).toNat = i := by omega
      have xj : ((j : Int)).toNat = j := by omega
      simp only [xi, xj] at e3
      have t1 : t0 ((f.set k (j : Int)).count (i : Int)) (as.getD i 0) - t0 (f.count (i : Int)) (as.getD i 0) = -1 := by unfold t0; (repeat' split) <;> omega
      have t2 : t0 ((f.set k (j : Int)).count (j : Int)) (as.getD j 0) - t0 (f.count (j : Int)) (as.getD j 0) = 0 := by unfold t0; (repeat' split) <;> omega
      omega
    obtain ⟨g, hg1, hg2, hg3, hg4⟩ := nearest hv n (f.set k j) as hg ha' T
    have ls : (f.set k (j : Int)).length = f.length := List.length_set ..
    refine ⟨g, hg1, hg2.trans ls, hg3, ?_⟩
    have := churn_tri (as := f) (bs := f.set k (j : Int)) (cs := g) ls.symm hg2.symm
    have := churn_set (as := f) (k := k) (x := (j : Int))
    omega
/-- all assignments of n buckets to v variants -/
def allL (v : Int) : Nat → List (List Int)
  | 0 => [[]]
  | n + 1 => (allL v n).flatMap fun r => (upI 0 v.toNat).map fun x => r ++ [x]
theorem mem_allL (hv : 0 ≤ v) : ∀ (n : Nat) (r : List Int), r ∈ allL v n ↔ r.length = n ∧ ∀ x ∈ r, 0 ≤ x ∧ x < v
  | 0, r => by
    constructor
    · intro h
      have : r = [] := by simpa [allL] using h
      subst this
      exact ⟨rfl, fun _ h => nomatch h⟩
    · rintro ⟨h, _⟩
      rw [List.eq_nil_of_length_eq_zero h]
      simp [allL]
  | n + 1, r => by
    unfold allL
    rw [List.mem_flatMap]
    constructor
    · rintro ⟨q, hq, h⟩
      obtain ⟨x, hx, rfl⟩ := List.mem_map.mp h
      obtain ⟨h1, h2⟩ := (mem_allL hv n q).mp hq
      refine ⟨by simp [h1], fun y hy => ?_⟩
      rcases List.mem_append.mp hy with w | w
      · exact h2 y w
      · rw [List.mem_singleton.mp w]
        have := mem_upI.mp hx
        omega
    · rintro ⟨h1, h2⟩
      have hne : r ≠ [] := fun z => by rw [z] at h1; simp at h1
      refine ⟨r.dropLast, (mem_allL hv n _).mpr ⟨by rw [List.length_dropLast]; omega, fun x hx => h2 x (List.dropLast_subset r hx)⟩, List.mem_map.mpr ⟨r.getLast hne, mem_upI.mpr ?_, List.dropLast_concat_getLast hne⟩⟩
      have := h2 _ (List.getLast_mem hne)
      omega
end Lm

/-! a list handed from one name to another, list.extend, tuples put together, all assignments -/
namespace Lm
open PySem PySem.Spec PyProof.Rows L2
section
variable {c : Ct} {H H' H0 H1 H2 H3 : Hp} {O : List Addr} {σ : L2.St} {Γ Γ' Γ1 : List (Option Rs)}
variable {te ta tb : TE} {k ka kb : Kd} {d : PyData} {i j : Int} {ds es : List PyData} {u : TS} {P : Out → Prop} {n m : Nat}
theorem Env.move (e : Env c H0 O H σ Γ) (h : Γ[n]? = some (some (.o d))) (hm : m < Γ.length) : ∃ v, σ[n]? = some (some v) ∧ Env c H0 O H (σ.set m (some v)) ((Γ.set n none).set m (some (.o d))) := by
  obtain ⟨fp, hr, nd, sub⟩ := e.rep
  obtain ⟨x, f, pre, post, hx, ⟨v, rfl, fo⟩, hfp, up⟩ := hr.nth h
  subst hfp
  refine ⟨v, hx, e.r0, e.j, e.fr, e.dm, ?_⟩
  have r1 : Reps c O H (σ.set n (some v)) (Γ.set n none) (pre ++ ([] ++ post)) := up O H (some v) none [] (fun _ _ _ _ z => z) rfl
  have es : σ.set n (some v) = σ := by
    obtain ⟨hlt, e1⟩ := List.getElem?_eq_some_iff.mp hx
    rw [← e1]
    exact List.set_getElem_self hlt
  rw [es] at r1
  obtain ⟨y, f2, pre2, post2, hy, _, hfp2, up2⟩ := r1.nth (i := m) (s := (Γ.set n none)[m]'(by rw [List.length_set]; exact hm)) (List.getElem?_eq_getElem _)
  have r2 := up2 O H (some v) (some (.o d)) f (fun _ _ _ _ z => z) ⟨v, rfl, fo⟩
  rw [List.nil_append] at hfp2
  have p1 : (pre ++ (f ++ post)).Perm (f ++ (pre ++ post)) := by
    rw [← List.append_assoc, ← List.append_assoc]
    exact List.Perm.append_right _ List.perm_append_comm
  have nd1 := p1.nodup_iff.mp nd
  rw [hfp2] at nd1
  have p2 : (pre2 ++ (f ++ post2)).Perm (f ++ (pre2 ++ post2)) := by
    rw [← List.append_assoc, ← List.append_assoc]
    exact List.Perm.append_right _ List.perm_append_comm
  refine ⟨_, r2, p2.nodup_iff.mpr (nd1.sublist ?_), fun a ha => sub a (p1.mem_iff.mpr ?_)⟩
  · refine List.Sublist.append (List.Sublist.refl _) (List.Sublist.append (List.Sublist.refl _) ?_)
    exact List.sublist_append_right _ _
  · rw [hfp2]
    have := p2.mem_iff.mp ha
    simp at this ⊢
    rcases this with w | w | w <;> simp [w]
theorem s_mov (h : Γ[n]? = some (some (.o d))) (hm : m < Γ.length) (p : P (.nx ((Γ.set n none).set m (some (.o d))))) : Sd c (tAsg (tVar n) (gName m)) Γ P := fun H0 O H σ D e s => by
  obtain ⟨v, hv, e'⟩ := e.move h hm
  exact ⟨v, hv, s _ p O H _ e'⟩
/-- t + u -/
theorem e_catT (ha : Ev c ta Γ .v (.tuple ds)) (hb : Ev c tb Γ .v (.tuple es)) (hl : ds.length + es.length ≤ 1000000) : Ev c (tOp (rAddA c.K) ta tb) Γ .v (.tuple (ds ++ es)) := fun H0 O H σ e Q q =>
  ha H0 O H σ e _ fun v H1 r1 s1 => hb H0 O H1 σ (e.on r1) _ fun u H2 r2 s2 => by
    have bv : Bo c (mns H2 O) v (.tuple ds) := Res.on e r1 r2 s1
    have bu : Bo c (mns H2 O) u (.tuple es) := s2
    obtain ⟨p, xs, rfl, s, al⟩ := Bo.tup' bv
    obtain ⟨p2, ys, rfl, s', al'⟩ := Bo.tup' bu
    refine .inr (.inl ⟨p, p2, xs, ys, rfl, rfl, (sqT_same mns_same s).sq, (sqT_same mns_same s').sq, by rw [al.len, al'.len]; exact sizeOk hl, fun hx => ?_, fun hx hy => ?_, fun _ _ => newTk (c := c) fun q' H3 hp sm tp => ?_⟩)
    · subst hx
      cases al
      exact q _ H2 (r1.tr r2) bu
    · subst hy
      cases al'
      exact q _ H2 (r1.tr r2) (by show Bo c (mns H2 O) _ _; rw [List.append_nil]; exact bv)
    · have r3 : Rr c H2 H3 := Rr.same sm
      have e2 := (e.on r1).on r2
      exact q _ H3 ((r1.tr r2).tr r3) (.tup (tpN_mns e2 r3 tp) ((al.app al').mono e2.j (r3.mns e2.j e2.okO)))
/-- xs.extend(a new list of flat things) -/
theorem s_ext (hx : Γ[n]? = some (some (.o (.list ds)))) (h : Ev c te Γ .o (.list es)) (hf : flatAll es = true) (hl : ds.length + es.length ≤ 1000000) (p : P (.nx (Γ.set n (some (.o (.list (ds ++ es))))))) : Sd c (tDrop (tBM c.K "list" rExtend (tVar n) (tCons te tNil))) Γ P := fun H0 O H σ D e s => by
  obtain ⟨q, xs, f, hq, hp, fa, qf, qO, _⟩ := e.write (es := ds ++ es) hx
  refine ⟨.ref q, hq, .inl ⟨rfl, xs, .inl (.inl hp)⟩, h H0 O H σ e _ fun v H2 r rs => ?_⟩
  obtain ⟨fp, fo, nd, new⟩ := rs
  obtain ⟨b, zs, g, rfl, rfl, hb, fb⟩ := fo.list'
  obtain ⟨_, bb⟩ := fb.flat0 hf
  have e2 := e.on r
  obtain ⟨q', xs', f', hq', hp', fa', qf', qO', wr⟩ := e2.write (es := ds ++ es) hx
  have : q' = q := by rw [hq] at hq'; cases hq'; rfl
  subst this
  have lx : xs'.length = ds.length := (fa'.bo fun a ha => e.okO a (qO' a ha)).len
  refine ⟨q', b, xs', zs, rfl, rfl, hp', hb, by rw [lx, bb.len]; exact sizeOk hl, s _ p O _ σ (wr (xs' ++ zs) ?_)⟩
  have := fa'.app (FoAll.leaves hf bb)
  rw [List.append_nil] at this
  exact this.up (fun _ _ s => sqT_upd hp' s) fun a ha o z => by
    have : a ≠ q' := fun w => qf' (w ▸ ha)
    rw [upd_ne this]; exact z
theorem e_min2 (ha : Ev c ta Γ ka (.int i)) (hb : Ev c tb Γ kb (.int j)) : Ev c (tCB (fun xs H Q => ∃ i j, xs = [V.int i, V.int j] ∧ Q (.int (if j < i then j else i)) H) (tCons ta (tCons tb tNil))) Γ .v (.int (if j < i then j else i)) :=
  d_cb (a_cons ha (a_cons hb a_nil)) fun H O vs Q s q => by
    obtain ⟨y, z, rfl, b1, b2⟩ := s.two
    exact ⟨i, j, by rw [b1.int', b2.int'], q _ H Rr.rf (.int _)⟩
end
abbrev tupD (r : List Int) : PyData := .tuple (r.map .int)
theorem flatD_rows (l : List (List Int)) : flatAll (l.map tupD) = true := flatAll_mem fun d hd => by
  obtain ⟨r, _, rfl⟩ := List.mem_map.mp hd
  exact flatT r
theorem allL_len (v : Int) : ∀ n, (allL v n).length = v.toNat ^ n
  | 0 => rfl
  | n + 1 => by
    unfold allL
    rw [List.length_flatMap, Nat.pow_succ, ← allL_len v n]
    generalize allL v n = l
    induction l with
    | nil => simp
    | cons a l ih => simp [upI] at ih ⊢; rw [Nat.add_mul]; omega
theorem allL_small {v : Int} {n : Nat} (hv : v ≤ 4) (hn : n ≤ 6) : (allL v n).length ≤ 4096 := by
  rw [allL_len]
  exact Nat.le_trans (Nat.pow_le_pow_left (by omega : v.toNat ≤ 4) n) (Nat.pow_le_pow_right (by decide) hn)
def sp__law_assignments (K : PySem.W.Frag) : Sp := spD K fun ds k d => ∃ v b : Int, ds = [.int v, .int b] ∧ 1 ≤ v ∧ v ≤ 4 ∧ 0 ≤ b ∧ b ≤ 6 ∧ k = .o ∧ d = .list ((allL v b.toNat).map tupD)
/-- the least churn so far, of those with these counts -/
def LeastOf (f as : List Int) (v : Int) (l : List (List Int)) (ls : PyData) : Prop :=
  (ls = .none ∧ ∀ r ∈ l, countsI r v ≠ as) ∨ ∃ m : Int, ls = .int m ∧ (∃ r ∈ l, countsI r v = as ∧ zs ne1 f r = m) ∧ ∀ r ∈ l, countsI r v = as → m ≤ zs ne1 f r
end Lm

/-! choices and factorials -/
namespace Lm
open PySem PySem.Spec PyProof.Rows L2
def fac : Nat → Nat
  | 0 => 1
  | n + 1 => (n + 1) * fac n
def cho : Nat → Nat → Nat
  | _, 0 => 1
  | 0, _ + 1 => 0
  | n + 1, k + 1 => cho n k + cho n (k + 1)
theorem fac_pos : ∀ n, 0 < fac n
  | 0 => by decide
  | n + 1 => Nat.mul_pos (by omega) (fac_pos n)
theorem cho_above : ∀ {n k : Nat}, n < k → cho n k = 0
  | 0, k + 1, _ => rfl
  | n + 1, k + 1, h => by
    show cho n k + cho n (k + 1) = 0
    rw [cho_above (by omega), cho_above (by omega)]
theorem cho_self : ∀ n, cho n n = 1
  | 0 => rfl
  | n + 1 => by
    show cho n n + cho n (n + 1) = 1
    rw [cho_self n, cho_above (by omega)]
theorem cho_fac : ∀ (n k : Nat), cho (n + k) k * fac k * fac n = fac (n + k)
  | n, 0 => by simp [cho, fac]
  | 0, k + 1 => by
    rw [Nat.zero_add, cho_self]
    simp [fac]
  | n + 1, k + 1 => by
    have h1 := cho_fac (n + 1) k
    have h2 := cho_fac n (k + 1)
    have e1 : n + 1 + (k + 1) = (n + 1 + k) + 1 := by omega
    have e2 : n + (k + 1) = n + 1 + k := by omega
    rw [e2] at h2
    rw [e1]
    show (cho (n + 1 + k) k + cho (n + 1 + k) (k + 1)) * ((k + 1) * fac k) * ((n + 1) * fac n) = (n + 1 + k + 1) * fac (n + 1 + k)
    have a1 : cho (n + 1 + k) k * ((k + 1) * fac k) * ((n + 1) * fac n) = (k + 1) * fac (n + 1 + k) := by
      rw [← h1]
      show _ = (k + 1) * (cho (n + 1 + k) k * fac k * ((n + 1) * fac n))
      simp only [Nat.mul_assoc, Nat.mul_comm, Nat.mul_left_comm]
    have a2 : cho (n + 1 + k) (k + 1) * ((k + 1) * fac k) * ((n + 1) * fac n) = (n + 1) * fac (n + 1 + k) := by
      rw [← h2]
      show _ = (n + 1) * (cho (n + 1 + k) (k + 1) * ((k + 1) * fac k) * fac n)
      simp only [Nat.mul_assoc, Nat.mul_comm, Nat.mul_left_comm]
    rw [Nat.add_mul, Nat.add_mul, a1, a2, ← Nat.add_mul]
    congr 1
    omega
theorem cho_symm (n k : Nat) : cho (n + k) k = cho (n + k) n := by
  have h1 := cho_fac n k
  have h2 := cho_fac k n
  rw [Nat.add_comm k n] at h2
  have e : cho (n + k) k * (fac k * fac n) = cho (n + k) n * (fac k * fac n) := by
    rw [← Nat.mul_assoc, h1, ← h2, Nat.mul_comm (fac k) (fac n), ← Nat.mul_assoc]
  exact Nat.eq_of_mul_eq_mul_right (Nat.mul_pos (fac_pos k) (fac_pos n)) e
theorem fall_cho : ∀ (k n : Nat), Builtin.Math.fallingProduct ((n + k : Nat) : Int) k = ((cho (n + k) k * fac k : Nat) : Int)
  | 0, n => by simp [Builtin.Math.fallingProduct, cho, fac]
  | k + 1, n => by
    have ih := fall_cho k (n + 1)
    have e1 : n + (k + 1) = n + 1 + k := by omega
    unfold Builtin.Math.fallingProduct at ih ⊢
    rw [List.range_succ, List.foldl_append, e1, ih]
    have h1 := cho_fac (n + 1) k
    have h2 := cho_fac n (k + 1)
    rw [e1] at h2
    have e2 : cho (n + 1 + k) k * fac k * (n + 1) = cho (n + 1 + k) (k + 1) * fac (k + 1) := by
      refine Nat.eq_of_mul_eq_mul_right (fac_pos n) ?_
      rw [h2, ← h1]
      show _ = cho (n + 1 + k) k * fac k * ((n + 1) * fac n)
      simp only [Nat.mul_assoc]
    rw [← e2]
    show ((cho (n + 1 + k) k * fac k : Nat) : Int) * (((n + 1 + k : Nat) : Int) - (k : Int)) = _
    have e3 : ((n + 1 + k : Nat) : Int) - (k : Int) = ((n + 1 : Nat) : Int) := by omega
    rw [e3, ← Int.natCast_mul]
theorem comb_cho (n k : Nat) : PySem.W.mcComb ((n + k : Nat) : Int) (k : Int) = (cho (n + k) k : Int) := by
  have div : ∀ a m : Nat, Builtin.Math.fallingProduct ((a + m : Nat) : Int) m / Builtin.Math.fallingProduct (m : Int) m = (cho (a + m) m : Int) := fun a m => by
    have e0 := fall_cho m 0
    rw [Nat.zero_add] at e0
    rw [fall_cho m a, e0, cho_self, Nat.one_mul, Int.natCast_mul]
    exact Int.mul_ediv_cancel _ (by have := fac_pos m; omega)
  have e : ((n + k : Nat) : Int) - (k : Int) = n := by omega
  by_cases h : k ≤ n
  · rw [PySem.W.mcComb_at (m := (k : Int)) (by omega) (by omega) (by rw [e]; omega)]
    have := div n k
    simpa using this
  · rw [PySem.W.mcComb_at (m := (n : Int)) (by omega) (by omega) (by rw [e]; omega), cho_symm]
    have := div k n
    rw [Nat.add_comm k n] at this
    simpa using this
end Lm

/-! products of choices -/
namespace Lm
open PySem PySem.Spec PyProof.Rows L2
def prodN : List Nat → Nat
  | [] => 1
  | a :: l => a * prodN l
theorem prodN_app : ∀ l m : List Nat, prodN (l ++ m) = prodN l * prodN m
  | [], m => by simp [prodN]
  | a :: l, m => by
    show a * prodN (l ++ m) = a * prodN l * prodN m
    rw [prodN_app l m, Nat.mul_assoc]
theorem prodN_pos : ∀ {l : List Nat}, (∀ a ∈ l, 0 < a) → 0 < prodN l
  | [], _ => by decide
  | a :: l, h => Nat.mul_pos (h a (by simp)) (prodN_pos fun b hb => h b (by simp [hb]))
/-- p things shared out, one choice after another -/
def mul2 (p : Nat) : List Nat → Nat
  | [] => 1
  | e :: es => cho p e * mul2 (p - e) es
theorem cho_fac' {p e : Nat} (h : e ≤ p) : cho p e * fac e * fac (p - e) = fac p := by
  have := cho_fac (p - e) e
  rwa [Nat.sub_add_cancel h] at this
theorem mul2_fac : ∀ (es : List Nat) (p : Nat), es.sum ≤ p → mul2 p es * prodN (es.map fac) * fac (p - es.sum) = fac p
  | [], p, _ => by simp [mul2, prodN]
  | e :: es, p, h => by
    simp only [List.sum_cons] at h ⊢
    have ih := mul2_fac es (p - e) (by omega)
    have e1 : p - (e + es.sum) = p - e - es.sum := by omega
    rw [e1, ← cho_fac' (p := p) (e := e) (by omega), ← ih]
    show cho p e * mul2 (p - e) es * (fac e * prodN (es.map fac)) * fac (p - e - es.sum) = _
    simp only [Nat.mul_assoc, Nat.mul_comm, Nat.mul_left_comm]
theorem mul2_snoc : ∀ (es : List Nat) (p e : Nat), mul2 p (es ++ [e]) = mul2 p es * cho (p - es.sum) e
  | [], p, e => by simp [mul2]
  | a :: es, p, e => by
    show cho p a * mul2 (p - a) (es ++ [e]) = cho p a * mul2 (p - a) es * cho (p - (a + es.sum)) e
    rw [mul2_snoc es (p - a) e, ← Nat.mul_assoc, Nat.sub_add_eq]
theorem cho_pos : ∀ {n k : Nat}, k ≤ n → 0 < cho n k
  | n, 0, _ => by cases n <;> (show 0 < 1; decide)
  | 0, k + 1, h => by omega
  | n + 1, k + 1, h => by
    show 0 < cho n k + cho n (k + 1)
    have := cho_pos (n := n) (k := k) (by omega)
    omega
theorem cho_one {n k : Nat} (h : k ≤ n) : cho n k = 1 ↔ k = 0 ∨ k = n := by
  constructor
  · intro e
    match n, k, h, e with
    | n, 0, _, _ => exact .inl rfl
    | n + 1, k + 1, h, e =>
      have e' : cho n k + cho n (k + 1) = 1 := e
      have p1 := cho_pos (n := n) (k := k) (by omega)
      by_cases q : k + 1 ≤ n
      · have := cho_pos (n := n) (k := k + 1) q
        omega
      · exact .inr (by omega)
  · rintro (rfl | rfl)
    · cases n <;> rfl
    · exact cho_self _
theorem mul2_pos : ∀ {es : List Nat} {p : Nat}, es.sum ≤ p → 0 < mul2 p es
  | [], _, _ => by show 0 < 1; decide
  | e :: es, p, h => by
    simp only [List.sum_cons] at h
    exact Nat.mul_pos (cho_pos (by omega)) (mul2_pos (by omega))
theorem sum_filter0 : ∀ {es : List Nat}, (es.filter fun e => decide (0 < e)).length = 0 ↔ es.sum = 0
  | [] => by simp
  | e :: es => by
    have ih := sum_filter0 (es := es)
    rw [List.filter_cons, List.sum_cons]
    by_cases q : 0 < e
    · simp [q]
      omega
    · simp [q] at ih ⊢
      have : e = 0 := by omega
      subst this
      simpa using ih
theorem mul_one_iff {a b : Nat} (ha : 0 < a) (hb : 0 < b) : a * b = 1 ↔ a = 1 ∧ b = 1 := by
  constructor
  · intro h
    have h1 : a * 1 ≤ a * b := Nat.mul_le_mul_left a hb
    have h2 : 1 * b ≤ a * b := Nat.mul_le_mul_right b ha
    omega
  · rintro ⟨rfl, rfl⟩
    rfl
/-- one way alone: all goes to one -/
theorem mul2_one : ∀ {es : List Nat} {p : Nat}, es.sum = p → (mul2 p es = 1 ↔ (es.filter fun e => decide (0 < e)).length < 2)
  | [], p, _ => by simp [mul2]
  | e :: es, p, h => by
    simp only [List.sum_cons] at h
    have ih := mul2_one (es := es) (p := p - e) (by omega)
    have c1 := cho_one (n := p) (k := e) (by omega)
    have p1 := cho_pos (n := p) (k := e) (by omega)
    have p2 := mul2_pos (es := es) (p := p - e) (by omega)
    have z := sum_filter0 (es := es)
    show cho p e * mul2 (p - e) es = 1 ↔ _
    rw [mul_one_iff p1 p2, c1, ih, List.filter_cons]
    by_cases q : 0 < e
    · simp only [q, decide_true, if_true, List.length_cons]
      constructor
      · rintro ⟨h1, h2⟩
        have : es.sum = 0 := by omega
        have := z.mpr this
        omega
      · intro h1
        have := z.mp (by omega)
        exact ⟨by omega, by omega⟩
    · have e0 : e = 0 := by omega
      subst e0
      simp
end Lm

/-! states, their ways -/
namespace Lm
open PySem PySem.Spec PyProof.Rows L2
section
variable {X : Cx}
theorem ip_mul : PIp X .Mult (rI CMul fun i j => .int (i * j)) := iop_mul
end
section
variable {c : Ct} {Γ : List (Option Rs)} {te ta tb : TE} {k ka kb : Kd} {u : TS} {P : Out → Prop} {n : Nat} {i j : Int}
theorem s_augM (hx : Γ[n]? = some (some (.v (.int i)))) (h : Ev c te Γ k (.int j)) (hc : CMul i j) (p : P (.nx (Γ.set n (some (.v (.int (i * j))))))) : Sd c (tAug n te (rI CMul fun i j => .int (i * j))) Γ P := fun H0 O H σ D e s => by
  obtain ⟨v, hv, b⟩ := e.slotV hx
  exact ⟨v, hv, h H0 O H σ e _ fun w H2 r q => ⟨i, j, b.int', (Res.bo e q).int', hc, s _ p O H2 _ ((e.on r).setV (.int _))⟩⟩
theorem q_augM (hx : Γ[n]? = some (some (.v (.int i)))) (h : Ev c te Γ k (.int j)) (hc : CMul i j) (p : Sd c u (Γ.set n (some (.v (.int (i * j))))) P) : Sd c (tSeq (tAug n te (rI CMul fun i j => .int (i * j))) u) Γ P := s_seq1 (s_augM hx h hc rfl) p
/-- a def without the stream, its first argument drawn -/
theorem n_pure {pre : Pre} {E : XK} {Pa Pd : PyData → Prop} {y : PyData} (ha : EvN c ta Γ ka Pa) (hb : Ev c tb Γ kb y) (hp : ∀ x, Pa x → ∃ d, pre [x, y] k d ∧ Pd d) : EvN c (tCall (spD c.K pre) [] E (tCons ta (tCons tb tNil))) Γ k Pd := fun H0 O H σ e Q q =>
  ha H0 O H σ e _ fun v x H1 px r1 s1 => hb H0 O H1 σ (e.on r1) _ fun w H2 r2 s2 => by
    obtain ⟨d, hpre, pd⟩ := hp x px
    have r := r1.tr r2
    have al : BoAll c H2 [v, w] [x, y] := .cons (Res.bo e (Res.on e r1 r2 s1)) (.cons (Res.bo (e.on r1) s2) .nil)
    refine ⟨[x, y], k, d, al.pure, hpre, fun u H3 sm rt => q u d H3 pd (r.tr (Rr.same sm)) ?_⟩
    have r3 : Rr c H H3 := r.tr (Rr.same sm)
    cases k with
    | v => exact (Bo.flat (c := pc c.K) (c' := c) rfl rt.1 rt.2).flatM e r3 rt.1
    | o =>
      obtain ⟨fp, f, nd, new⟩ := rt
      exact ⟨fp, Fo.ct (c := pc c.K) (c' := c) rfl f, nd, fun a ha => r.back e.jH (new a ha)⟩
    | b => exact rt.elim
/-- min of two, the second drawn -/
theorem n_min2 {Q : Int → Prop} {Pd : Int → Prop} (ha : Ev c ta Γ ka (.int i)) (hb : EvN c tb Γ kb (SomeI Q)) (hq : ∀ j, Q j → Pd (if j < i then j else i)) : EvN c (tCB (fun xs H Q => ∃ i j, xs = [V.int i, V.int j] ∧ Q (.int (if j < i then j else i)) H) (tCons ta (tCons tb tNil))) Γ .v (SomeI Pd) := fun H0 O H σ e Q' q =>
  ha H0 O H σ e _ fun v H1 r1 s1 => hb H0 O H1 σ (e.on r1) _ fun u y H2 ⟨j, hj, qj⟩ r2 s2 => by
    subst hj
    exact ⟨i, j, by rw [(Res.bo e (Res.on e r1 r2 s1)).int', (Res.bo (e.on r1) s2).int'], q _ _ H2 ⟨_, rfl, hq j qj⟩ (r1.tr r2) (.int _)⟩
end
def lvI (ns ms : List Int) : List Int := (ns.zip ms).map fun p => t0 p.1 p.2
def enI (ns ms : List Int) : List Int := (ns.zip ms).map fun p => t0 p.2 p.1
def waysN (ns ls es : List Int) : Nat := prodN ((ns.zip ls).map fun p => cho p.1.toNat p.2.toNat) * mul2 es.sum.toNat (es.map Int.toNat)
def sp_check_sized (K : PySem.W.Frag) : Sp := spD K fun ds k d => ∃ (f as : List Int) (v : Int) (nm : Str), ds = [.tuple (f.map .int), .tuple (as.map .int), .str nm] ∧ Asg f v ∧ Alc as v f.length ∧ k = .v ∧ d = .none
def sp_check_change (K : PySem.W.Frag) : Sp := spD K fun ds k d => ∃ (as f : List Int) (v : Int), ds = [.tuple (as.map .int), .tuple (f.map .int)] ∧ Asg f v ∧ Alc as v f.length ∧ 1 ≤ v ∧ v ≤ 5 ∧ k = .v ∧ d = .none
def sp_first_state (K : PySem.W.Frag) : Sp := spD K fun ds k d => ∃ (as f : List Int) (v : Int), ds = [.tuple (as.map .int), .tuple (f.map .int)] ∧ Asg f v ∧ Alc as v f.length ∧ 1 ≤ v ∧ v ≤ 5 ∧ k = .v ∧ d = .tuple [.tuple ((countsI f v).map .int), .tuple ((lvI (countsI f v) as).map .int), .tuple ((enI (countsI f v) as).map .int)]
/-- a state whose ways can be counted -/
structure StOk (ns ls es : List Int) : Prop where
  len : ns.length = ls.length
  l1 : ns.length ≤ 1000
  l2 : es.length ≤ 1000
  le : ∀ p ∈ ns.zip ls, 0 ≤ p.2 ∧ p.2 ≤ p.1 ∧ p.1 ≤ 20
  nn : ∀ e ∈ es, 0 ≤ e
  sum : es.sum ≤ 20
def sp_ways (K : PySem.W.Frag) : Sp := spD K fun ds k d => ∃ (ns ls es : List Int), ds = [.tuple [.tuple (ns.map .int), .tuple (ls.map .int), .tuple (es.map .int)]] ∧ StOk ns ls es ∧ k = .v ∧ d = .int (waysN ns ls es : Nat)
def sp_count_changes (K : PySem.W.Frag) : Sp := spD K fun ds k d => ∃ (as f : List Int) (v : Int), ds = [.tuple (as.map .int), .tuple (f.map .int)] ∧ Asg f v ∧ Alc as v f.length ∧ 1 ≤ v ∧ v ≤ 5 ∧ k = .v ∧ d = .int (waysN (countsI f v) (lvI (countsI f v) as) (enI (countsI f v) as) : Nat)
def sp__law_factorial (K : PySem.W.Frag) : Sp := spD K fun ds k d => ∃ m : Nat, ds = [.int (m : Int)] ∧ m ≤ 20 ∧ k = .v ∧ d = .int (fac m : Nat)
def sp__law_shares (K : PySem.W.Frag) : Sp := spS K fun ds k P => ∃ v b : Int, ds = [.int v, .int b] ∧ 1 ≤ v ∧ v ≤ 1000 ∧ 0 ≤ b ∧ b ≤ 20 ∧ k = .v ∧ P = fun d => ∃ as : List Int, d = .tuple (as.map .int) ∧ Alc as v b
theorem fac_le {m n : Nat} (h : m ≤ n) : fac m ≤ fac n := by
  induction n with
  | zero => have : m = 0 := by omega
            rw [this]; exact Nat.le_refl _
  | succ n ih =>
    by_cases q : m = n + 1
    · rw [q]; exact Nat.le_refl _
    · have := ih (by omega)
      exact Nat.le_trans this (Nat.le_mul_of_pos_left _ (by omega))
theorem fac20 {m : Nat} (h : m ≤ 20) : (fac m : Int) < 2 ^ 64 := by
  have h1 := fac_le h
  have h2 : fac 20 = 2432902008176640000 := by decide
  omega
theorem cho20 {n k : Nat} (h : n ≤ 20) (hk : k ≤ n) : (cho n k : Int) < 2 ^ 64 := by
  have h1 := cho_fac' hk
  have h2 := fac20 h
  have h3 : cho n k ≤ fac n := by
    rw [← h1, Nat.mul_assoc]
    exact Nat.le_mul_of_pos_right _ (Nat.mul_pos (fac_pos _) (fac_pos _))
  omega
theorem comb_n {n k : Nat} (h : k ≤ n) : PySem.W.mcComb (n : Int) (k : Int) = (cho n k : Int) := by
  have := comb_cho (n - k) k
  rwa [Nat.sub_add_cancel h] at this
theorem upI1_at {n m : Nat} {a : Im} (h : ((upI 1 n).map fun i => Im.d (.int i))[m]? = some a) : m < n ∧ a = .d (.int ((m : Int) + 1)) := by
  unfold upI at h
  rw [List.map_map, List.getElem?_map] at h
  cases q : (List.range n)[m]? with
  | none => rw [q] at h; cases h
  | some j =>
    rw [q] at h
    have hm : m < n := by have := (List.getElem?_eq_some_iff.mp q).1; simpa using this
    have hj : j = m := by rw [List.getElem?_range hm] at q; exact (Option.some.inj q).symm
    subst hj
    refine ⟨hm, (Option.some.inj h).symm.trans ?_⟩
    show Im.d (.int (1 + (j : Int))) = _
    rw [Int.add_comm]
theorem zip_t0_sum : ∀ {ns ms : List Int}, ns.length = ms.length → (lvI ns ms).sum = zs t0 ns ms ∧ (enI ns ms).sum = zs t0 ms ns
  | [], [], _ => ⟨rfl, rfl⟩
  | a :: ns, b :: ms, h => by
    obtain ⟨h1, h2⟩ := zip_t0_sum (ns := ns) (ms := ms) (by simpa using h)
    rw [zs_cons, zs_cons, ← h1, ← h2]
    exact ⟨rfl, rfl⟩
  | [], _ :: _, h => by simp at h
  | _ :: _, [], h => by simp at h
theorem zs_le_sum : ∀ {ns ms : List Int}, ns.length = ms.length → (∀ n ∈ ns, 0 ≤ n) → (∀ m ∈ ms, 0 ≤ m) → zs t0 ns ms ≤ ns.sum
  | [], [], _, _, _ => Int.le_refl _
  | a :: ns, b :: ms, h, hn, hm => by
    have := zs_le_sum (ns := ns) (ms := ms) (by simpa using h) (fun n q => hn n (by simp [q])) fun m q => hm m (by simp [q])
    have h1 := hn a (by simp)
    have h2 := hm b (by simp)
    rw [zs_cons, List.sum_cons]
    have : t0 a b ≤ a := by unfold t0; split <;> omega
    omega
  | [], _ :: _, h, _, _ => by simp at h
  | _ :: _, [], h, _, _ => by simp at h
theorem stOk {f as : List Int} {v : Int} (hf : Asg f v) (ha : Alc as v f.length) (hv : 1 ≤ v) (hv5 : v ≤ 5) : StOk (countsI f v) (lvI (countsI f v) as) (enI (countsI f v) as) := by
  have hc := hf.alc (by omega)
  have l := hc.lens ha
  have h20 := hf.len
  have cl := hc.len
  have z := zip_t0_sum l
  have h0 := zs_le_sum l.symm ha.nn hc.nn
  have fs := ha.sum
  have lz : (lvI (countsI f v) as).length = (countsI f v).length := by simp [lvI]; omega
  refine ⟨lz.symm, ?_, ?_, fun p hp => ?_, fun e he => ?_, by rw [z.2]; omega⟩
  · have : (countsI f v).length ≤ 1000 := by omega
    exact this
  · have : (enI (countsI f v) as).length ≤ (countsI f v).length := by simp [enI]; omega
    omega
  · obtain ⟨i, hi, rfl⟩ := List.getElem_of_mem hp
    have hi1 : i < (countsI f v).length := by simp at hi; omega
    have hi2 : i < as.length := by omega
    have e : ((countsI f v).zip (lvI (countsI f v) as))[i] = ((countsI f v)[i], t0 (countsI f v)[i] as[i]) := by simp [lvI]
    rw [e]
    have a0 := ha.nn _ (List.getElem_mem hi2)
    have c0 := hc.nn _ (List.getElem_mem hi1)
    have c1 := hc.le _ (List.getElem_mem hi1)
    show 0 ≤ t0 _ _ ∧ t0 _ _ ≤ _ ∧ _ ≤ _
    unfold t0
    split <;> omega
  · obtain ⟨p, _, rfl⟩ := List.mem_map.mp he
    exact t0_nn _ _
theorem sum_toNat : ∀ {ns : List Int}, (∀ n ∈ ns, 0 ≤ n) → (ns.map Int.toNat).sum = ns.sum.toNat
  | [], _ => rfl
  | n :: ns, h => by
    have h1 := h n (by simp)
    have h2 := sum_nn (ns := ns) fun m hm => h m (by simp [hm])
    rw [List.map_cons, List.sum_cons, List.sum_cons, sum_toNat fun m hm => h m (by simp [hm])]
    omega
end Lm

/-! how many ways there are, told with factorials -/
namespace Lm
open PySem PySem.Spec PyProof.Rows L2
def nAt (ns : List Int) (j : Nat) : Nat := (ns.getD j 0).toNat
def gL (cs as : List Int) (j : Nat) : Nat := fac (min (nAt cs j) (nAt as j)) * fac (nAt cs j - nAt as j) * fac (nAt as j - nAt cs j)
theorem prodN_mul (f g : Nat → Nat) : ∀ l : List Nat, prodN (l.map fun j => f j * g j) = prodN (l.map f) * prodN (l.map g)
  | [] => rfl
  | a :: l => by
    show f a * g a * prodN (l.map fun j => f j * g j) = f a * prodN (l.map f) * (g a * prodN (l.map g))
    rw [prodN_mul f g l]
    simp only [Nat.mul_assoc, Nat.mul_comm, Nat.mul_left_comm]
theorem prodN_one : ∀ {l : List Nat}, (∀ a ∈ l, 0 < a) → (prodN l = 1 ↔ ∀ a ∈ l, a = 1)
  | [], _ => by simp [prodN]
  | a :: l, h => by
    show a * prodN l = 1 ↔ _
    rw [mul_one_iff (h a (by simp)) (prodN_pos fun b hb => h b (by simp [hb])), prodN_one fun b hb => h b (by simp [hb])]
    simp
section
variable {cs as : List Int} (hl : cs.length = as.length) (hc : ∀ n ∈ cs, 0 ≤ n) (ha : ∀ n ∈ as, 0 ≤ n)
include hl hc ha
theorem cho_rows : (cs.zip (lvI cs as)).map (fun p => cho p.1.toNat p.2.toNat) = (List.range cs.length).map fun j => cho (nAt cs j) (nAt cs j - nAt as j) := by
  apply List.ext_getElem
  · simp [lvI]; omega
  · intro i h1 h2
    have hi : i < cs.length := by simpa using h2
    have hi2 : i < as.length := by omega
    have e : ((cs.zip (lvI cs as)).map fun p => cho p.1.toNat p.2.toNat)[i] = cho cs[i].toNat (t0 cs[i] as[i]).toNat := by simp [lvI]
    rw [e]
    simp only [List.getElem_map, List.getElem_range]
    unfold nAt
    rw [gd_lt hi, gd_lt hi2]
    have c0 := hc _ (List.getElem_mem hi)
    have a0 := ha _ (List.getElem_mem hi2)
    congr 1
    unfold t0
    split <;> omega
theorem en_rows : (enI cs as).map Int.toNat = (List.range cs.length).map fun j => nAt as j - nAt cs j := by
  apply List.ext_getElem
  · simp [enI]; omega
  · intro i h1 h2
    have hi : i < cs.length := by simpa using h2
    have hi2 : i < as.length := by omega
    have e : ((enI cs as).map Int.toNat)[i] = (t0 as[i] cs[i]).toNat := by simp [enI]
    rw [e]
    simp only [List.getElem_map, List.getElem_range]
    unfold nAt
    rw [gd_lt hi, gd_lt hi2]
    have c0 := hc _ (List.getElem_mem hi)
    have a0 := ha _ (List.getElem_mem hi2)
    unfold t0
    split <;> omega
theorem en_sum : (enI cs as).sum.toNat = ((List.range cs.length).map fun j => nAt as j - nAt cs j).sum := by
  rw [← en_rows hl hc ha, sum_toNat]
  intro e he
  obtain ⟨p, _, rfl⟩ := List.mem_map.mp he
  exact t0_nn _ _
theorem ways_eq : waysN cs (lvI cs as) (enI cs as) = prodN ((List.range cs.length).map fun j => cho (nAt cs j) (nAt cs j - nAt as j)) * mul2 ((List.range cs.length).map fun j => nAt as j - nAt cs j).sum ((List.range cs.length).map fun j => nAt as j - nAt cs j) := by
  unfold waysN
  rw [cho_rows hl hc ha, en_sum hl hc ha, en_rows hl hc ha]
theorem left_right (hT : (trI cs as).toNat = ((List.range cs.length).map fun j => nAt as j - nAt cs j).sum) :
    waysN cs (lvI cs as) (enI cs as) * prodN ((List.range cs.length).map (gL cs as)) = fac (trI cs as).toNat * prodN ((List.range cs.length).map fun j => fac (nAt cs j)) := by
  rw [ways_eq hl hc ha, hT]
  have m := mul2_fac ((List.range cs.length).map fun j => nAt as j - nAt cs j) _ (Nat.le_refl _)
  rw [Nat.sub_self] at m
  have m' : ∀ x : Nat, x * fac 0 = x := fun x => Nat.mul_one x
  rw [m'] at m
  have g1 : prodN ((List.range cs.length).map (gL cs as)) = prodN ((List.range cs.length).map fun j => fac (min (nAt cs j) (nAt as j)) * fac (nAt cs j - nAt as j)) * prodN ((List.range cs.length).map fun j => fac (nAt as j - nAt cs j)) :=
    prodN_mul (fun j => fac (min (nAt cs j) (nAt as j)) * fac (nAt cs j - nAt as j)) (fun j => fac (nAt as j - nAt cs j)) _
  have g2 := prodN_mul (fun j => cho (nAt cs j) (nAt cs j - nAt as j)) (fun j => fac (min (nAt cs j) (nAt as j)) * fac (nAt cs j - nAt as j)) (List.range cs.length)
  have g3 : ((List.range cs.length).map fun j => cho (nAt cs j) (nAt cs j - nAt as j) * (fac (min (nAt cs j) (nAt as j)) * fac (nAt cs j - nAt as j))) = (List.range cs.length).map fun j => fac (nAt cs j) :=
    List.map_congr_left fun j _ => by
      have c := cho_fac' (p := nAt cs j) (e := nAt cs j - nAt as j) (by omega)
      have e : nAt cs j - (nAt cs j - nAt as j) = min (nAt cs j) (nAt as j) := by omega
      rw [e] at c
      rw [← c]
      simp only [Nat.mul_assoc, Nat.mul_comm, Nat.mul_left_comm]
  rw [g3] at g2
  rw [List.map_map] at m
  have e5 : ((List.range cs.length).map (fac ∘ fun j => nAt as j - nAt cs j)) = (List.range cs.length).map fun j => fac (nAt as j - nAt cs j) := rfl
  rw [e5] at m
  rw [g1, ← m, g2]
  simp only [Nat.mul_assoc, Nat.mul_comm, Nat.mul_left_comm]
theorem many_one : waysN cs (lvI cs as) (enI cs as) = 1 ↔ (∀ j, j < cs.length → as.getD j 0 < cs.getD j 0 → as.getD j 0 = 0) ∧ ((List.range cs.length).filter fun j => decide (cs.getD j 0 < as.getD j 0)).length < 2 := by
  have cp : ∀ a ∈ (List.range cs.length).map fun j => cho (nAt cs j) (nAt cs j - nAt as j), 0 < a := fun a h => by
    obtain ⟨j, _, rfl⟩ := List.mem_map.mp h
    exact cho_pos (by omega)
  rw [ways_eq hl hc ha, mul_one_iff (prodN_pos cp) (mul2_pos (Nat.le_refl _)), prodN_one cp, mul2_one rfl]
  refine and_congr ?_ ?_
  · constructor
    · intro h j hj hlt
      have r := h _ (List.mem_map.mpr ⟨j, List.mem_range.mpr hj, rfl⟩)
      rw [cho_one (by omega)] at r
      have a0 := ha _ (gd_mem (l := as) (j := j) (by omega))
      unfold nAt at r
      omega
    · intro h a hm
      obtain ⟨j, hj, rfl⟩ := List.mem_map.mp hm
      have hj' := List.mem_range.mp hj
      have c0 := hc _ (gd_mem hj')
      rw [cho_one (by omega)]
      by_cases q : as.getD j 0 < cs.getD j 0
      · have := h j hj' q
        unfold nAt
        omega
      · unfold nAt
        omega
  · rw [List.filter_map, List.length_map]
    have e : ((List.range cs.length).filter ((fun e => decide (0 < e)) ∘ fun j => nAt as j - nAt cs j)) = (List.range cs.length).filter fun j => decide (cs.getD j 0 < as.getD j 0) := by
      apply List.filter_congr
      intro j hj
      have hj' := List.mem_range.mp hj
      have c0 := hc _ (gd_mem hj')
      have a0 := ha _ (gd_mem (l := as) (j := j) (by omega))
      show decide (0 < nAt as j - nAt cs j) = _
      rw [decide_eq_decide]
      unfold nAt
      omega
    rw [e]
end
theorem i_seqBI {c : Ct} {Γ : List (Option Rs)} {tl : TE} {k : Kd} {ns : List Int} (h : Ev c tl Γ k (.list (ns.map .int))) : EvI c (iSeq c.K tl) Γ false (ns.map imI) := by
  have := i_seqB h (flatAll_ints ns)
  rwa [List.map_map] at this
theorem e_eqB {c : Ct} {Γ : List (Option Rs)} {ta tb : TE} {ka kb : Kd} {a b : Bool} (ha : Ev c ta Γ ka (.bool a)) (hb : Ev c tb Γ kb (.bool b)) : Ev c (tOp (rEqA c.K) ta tb) Γ .v (.bool (a == b)) :=
  e_eqS ha hb rfl rfl rfl (by cases a <;> cases b <;> rfl)
theorem shapedL (ns : List Int) : SeqAt.shaped (.list (ns.map .int)) = true := by
  simp [SeqAt.shaped, PyData.canLay0, PyData.canLayAll0, PyData.depth, PyData.depthAll, PySem.W.ke_canLayAll0, PySem.W.ke_depthAll]
theorem e_eqLL {c : Ct} {Γ : List (Option Rs)} {ta tb : TE} {ka kb : Kd} {ns ms : List Int} (ha : Ev c ta Γ ka (.list (ns.map .int))) (hb : Ev c tb Γ kb (.list (ms.map .int))) : Ev c (tOp (rEqA c.K) ta tb) Γ .v (.bool (decide (ns = ms))) :=
  (e_eqD ha hb (shapedL _) (shapedL _)).to (by simp only [PyData.eqv]; rw [PySem.W.ked_eqvAll])
end Lm

/-! slices of tuples; min and max of lists; sorted of lists; int of a truth; sums over three lists: what is in the middle -/
namespace Lm
open PySem PySem.Spec PyProof.Rows L2
section
variable {X : Cx} {K : PySem.W.Frag} (hK : X.K = K)
include hK
theorem k_min (hc : X.calm = true) : CallR X (.builtin "min") (rMin K) := hK ▸ cr_min hc
theorem k_max (hc : X.calm = true) : CallR X (.builtin "max") (rMax K) := hK ▸ cr_max hc
end
variable {c : Ct} {H H' H0 H1 H2 H3 : Hp} {O : List Addr} {Γ Γ' Γ1 : List (Option Rs)}
variable {te ta tb tx : TE} {tl th : TO} {k ka kb : Kd} {d x y z : PyData} {i j : Int} {a b : Bool} {ds es : List PyData}
def Eo (c : Ct) (t : TO) (Γ : List (Option Rs)) (o : Option Int) : Prop :=
  ∀ H0 O H σ, Env c H0 O H σ Γ → ∀ Q : Option Int → Hp → Prop, (∀ H2, Rr c H H2 → Q o H2) → t σ H Q
theorem o_none : Eo c tNoPart Γ none := fun H0 O H σ e Q q => q H Rr.rf
theorem o_some (h : Ev c te Γ k (.int i)) : Eo c (tPart te) Γ (some i) := fun H0 O H σ e Q q => h H0 O H σ e _ fun v H2 r s => ⟨i, (Res.bo e s).int', q H2 r⟩
def cutD {α : Type} (ds : List α) (lo hi : Option Int) : List α := (ds.drop (HT.sIx ds.length 0 lo)).take (HT.sIx ds.length ds.length hi - HT.sIx ds.length 0 lo)
theorem BoAll.cut {vs : List V} {lo hi : Option Int} (h : BoAll c H vs ds) : BoAll c H (cutV vs lo hi) (cutD ds lo hi) := by
  unfold cutV cutD
  rw [h.len]
  exact (h.drop _).take _
theorem e_sl {lo hi : Option Int} (h : Ev c te Γ .v (.tuple ds)) (h1 : Eo c tl Γ lo) (h2 : Eo c th Γ hi) : Ev c (tSl (rSlN c.K) te tl th) Γ .v (.tuple (cutD ds lo hi)) := fun H0 O H σ e Q q =>
  h H0 O H σ e _ fun v H1 r1 s1 => h1 H0 O H1 σ (e.on r1) _ fun H2 r2 => h2 H0 O H2 σ ((e.on r1).on r2) _ fun H3 r3 => by
    have r : Rr c H H3 := (r1.tr r2).tr r3
    obtain ⟨p, xs, rfl, s, al⟩ := Bo.tup' (Res.on e r1 (r2.tr r3) s1)
    refine ⟨p, xs, rfl, (sqT_same mns_same s).sq, fun w => ?_, fun _ => newTk (c := c) fun p' H4 hp sm tp => ?_⟩
    · refine q (.ref p) H3 r ?_
      have e1 : cutD ds lo hi = ds := by
        unfold cutD
        rw [← al.len, w.1, w.2, al.len]
        simp
      rw [e1]
      exact .tup s al
    · have r4 : Rr c H H4 := r.tr (Rr.same sm)
      exact q _ H4 r4 (.tup (tpN_mns e r4 tp) (al.cut.mono (e.on r).j ((Rr.same sm : Rr c H3 H4).mns (e.on r).j e.okO)))
theorem cutD_lo {α : Type} {ds : List α} {t : Nat} (h : t ≤ ds.length) : cutD ds (some (t : Int)) none = ds.drop t := by
  unfold cutD
  rw [HT.sIx_nat, HT.sIx_none, Nat.min_eq_left h]
  apply List.take_of_length_le
  simp
theorem cutD_hi {α : Type} {ds : List α} {t : Nat} (h : t ≤ ds.length) : cutD ds none (some (t : Int)) = ds.take t := by
  unfold cutD
  rw [HT.sIx_nat, HT.sIx_none, Nat.min_eq_left h]
  simp
/-! min and max of a list -/
def mnL : List Int → Int
  | [] => 0
  | [n] => n
  | n :: m :: ns => if mnL (m :: ns) < n then mnL (m :: ns) else n
theorem mnL_mem : ∀ {ns : List Int}, 0 < ns.length → mnL ns ∈ ns
  | [n], _ => by simp [mnL]
  | n :: m :: ns, _ => by
    have := mnL_mem (ns := m :: ns) (by simp)
    unfold mnL
    split
    · exact List.mem_cons_of_mem _ this
    · simp
theorem mnL_le : ∀ {ns : List Int}, ∀ y ∈ ns, mnL ns ≤ y
  | [], _, h => nomatch h
  | [n], y, h => by rw [List.mem_singleton.mp h]; exact Int.le_refl _
  | n :: m :: ns, y, h => by
    unfold mnL
    rcases List.mem_cons.mp h with q | q
    · subst q; split <;> omega
    · have := mnL_le (ns := m :: ns) y q
      split <;> omega
def mxL : List Int → Int
  | [] => 0
  | [n] => n
  | n :: m :: ns => if mxL (m :: ns) > n then mxL (m :: ns) else n
theorem mxL_mem : ∀ {ns : List Int}, 0 < ns.length → mxL ns ∈ ns
  | [n], _ => by simp [mxL]
  | n :: m :: ns, _ => by
    have := mxL_mem (ns := m :: ns) (by simp)
    unfold mxL
    split
    · exact List.mem_cons_of_mem _ this
    · simp
theorem mxL_le : ∀ {ns : List Int}, ∀ y ∈ ns, y ≤ mxL ns
  | [], _, h => nomatch h
  | [n], y, h => by rw [List.mem_singleton.mp h]; exact Int.le_refl _
  | n :: m :: ns, y, h => by
    unfold mxL
    rcases List.mem_cons.mp h with q | q
    · subst q; split <;> omega
    · have := mxL_le (ns := m :: ns) y q
      split <;> omega
theorem e_minL {ns : List Int} (h : Ev c te Γ k (.list (ns.map .int))) (hl : 0 < ns.length) : Ev c (tCB (rMin c.K) (tCons te tNil)) Γ .v (.int (mnL ns)) := fun H0 O H σ e Q q =>
  h H0 O H σ e _ fun v H1 r s => by
    obtain ⟨p, xs, rfl, _, sl, al⟩ := (Res.bo e s).lst'
    have := al.ints
    subst this
    refine ⟨p, ns, rfl, sl, hl, fun m h1 h2 => ?_⟩
    have e1 : m = mnL ns := by
      have := h2 _ (mnL_mem hl)
      have := mnL_le m h1
      omega
    rw [e1]
    exact q _ H1 r (.int _)
theorem e_maxL {ns : List Int} (h : Ev c te Γ k (.list (ns.map .int))) (hl : 0 < ns.length) : Ev c (tCB (rMax c.K) (tCons te tNil)) Γ .v (.int (mxL ns)) := fun H0 O H σ e Q q =>
  h H0 O H σ e _ fun v H1 r s => by
    obtain ⟨p, xs, rfl, _, sl, al⟩ := (Res.bo e s).lst'
    have := al.ints
    subst this
    refine ⟨p, ns, rfl, sl, hl, fun m h1 h2 => ?_⟩
    have e1 : m = mxL ns := by
      have := h2 _ (mxL_mem hl)
      have := mxL_le m h1
      omega
    rw [e1]
    exact q _ H1 r (.int _)
/-- sorted(xs): a new list -/
theorem n_sortedL {ns : List Int} (h : Ev c te Γ k (.list (ns.map .int))) (hl : ns.length < 64) : EvN c (tCB (rSortedA c.K) (tCons te tNil)) Γ .o (fun d => ∃ ns' : List Int, d = .list (ns'.map .int) ∧ ns'.Perm ns ∧ ns'.Pairwise (· ≤ ·)) := fun H0 O H σ e Q q =>
  h H0 O H σ e _ fun v H1 r s => by
    obtain ⟨p, xs, rfl, _, sl, al⟩ := (Res.bo e s).lst'
    have := al.ints
    subst this
    refine .inl ⟨p, ns, rfl, sl, hl, fun ns' p' h1 h2 hp => ?_⟩
    have sm : Same H1 (upd H1 p' (.lst (ns'.map V.int))) := fun b u z => by rw [upd_ne (ne_of_none z hp)]; exact z
    exact q _ _ _ ⟨ns', rfl, h1, h2⟩ (r.tr (Rr.same sm)) ⟨[p'], .lst upd_same (FoAll.leaves (flatAll_ints _) (BoAll.ofInts _)), by simp, fun a ha => by
      cases List.mem_singleton.mp ha
      exact r.back e.jH hp⟩
/-- sorted([a, b, c])[1] -/
theorem e_mid3 {a b c0 : Int} (h : Ev c te Γ k (.list ([a, b, c0].map .int))) : Ev c (tOp (rIx c.K) (tCB (rSortedA c.K) (tCons te tNil)) (tC (.int 1))) Γ .v (.int (mid3 a b c0)) :=
  EvN.det (n_ixL (Q := fun i => i = 1) (n_sortedL h (by simp)) (d_int.sm rfl) fun x i' hx hi => by
    obtain ⟨ns, rfl, hp, hs⟩ := hx
    subst hi
    obtain ⟨x, z, rfl⟩ := mid_sorted hp hs
    exact ⟨_, _, rfl, rfl, rfl, rfl⟩)
theorem e_intB {b : Bool} (h : Ev c te Γ k (.bool b)) : Ev c (tCB (fun xs H Q => (∃ i, xs = [V.int i] ∧ Q (.int i) H) ∨ ∃ k, xs = [V.bl k] ∧ Q (.int (if k then 1 else 0)) H) (tCons te tNil)) Γ .v (.int (if b then 1 else 0)) :=
  d_cb (a_cons h a_nil) fun H O vs Q s q => by
    obtain ⟨x, rfl, bb⟩ := s.one
    exact .inr ⟨b, by rw [bb.bl'], q _ H Rr.rf (.int _)⟩
theorem sum_is (i : Int) : ∀ ns : List Int, (ns.map fun n => if (decide (n = i)) = true then (1 : Int) else 0).sum = (ns.count i : Nat)
  | [] => rfl
  | n :: ns => by
    rw [List.map_cons, List.sum_cons, sum_is i ns, List.count_cons]
    by_cases h : n = i
    · subst h; simp; omega
    · simp [h]
def sp__law_count (K : PySem.W.Frag) : Sp := spD K fun ds k d => ∃ (ns : List Int) (v : Int), ds = [.tuple (ns.map .int), .int v] ∧ ns.length ≤ 1000 ∧ 0 ≤ v ∧ v ≤ 1000 ∧ k = .v ∧ d = .tuple ((countsI ns v).map .int)
def sp__law_drawn (K : PySem.W.Frag) : Sp := spS K fun ds k P => ∃ v b : Int, ds = [.int v, .int b] ∧ 1 ≤ v ∧ v ≤ 1000 ∧ 0 ≤ b ∧ b ≤ 1000 ∧ k = .v ∧ P = fun d => ∃ ns : List Int, d = .tuple (ns.map .int) ∧ (ns.length : Int) = b ∧ ∀ n ∈ ns, 0 ≤ n ∧ n < v
def sp__law_three (K : PySem.W.Frag) : Sp := spS K fun ds k P => ∃ v b : Int, ds = [.int v, .int b] ∧ 1 ≤ v ∧ v ≤ 1000 ∧ 0 ≤ b ∧ b ≤ 20 ∧ k = .o ∧ P = fun d => ∃ f g h : List Int, d = .list [.tuple (f.map .int), .tuple (g.map .int), .tuple (h.map .int)] ∧ Alc f v b ∧ Alc g v b ∧ Alc h v b
def sp__law_medians (K : PySem.W.Frag) : Sp := spD K fun ds k d => ∃ as bs cs : List Int, ds = [.tuple (as.map .int), .tuple (bs.map .int), .tuple (cs.map .int)] ∧ as.length = bs.length ∧ as.length = cs.length ∧ as.length ≤ 1000 ∧ k = .v ∧ d = .tuple ((medI as bs cs).map .int)
/-- what is over -/
def suI (as bs cs : List Int) : Int := (medI as bs cs).sum - as.sum
def exI (as bs cs : List Int) : Int := if 0 > suI as bs cs then 0 else suI as bs cs
def sp_surplus (K : PySem.W.Frag) : Sp := spD K fun ds k d => ∃ (as bs cs : List Int) (v b : Int), ds = [.tuple (as.map .int), .tuple (bs.map .int), .tuple (cs.map .int)] ∧ Alc as v b ∧ Alc bs v b ∧ Alc cs v b ∧ 1 ≤ v ∧ v ≤ 5 ∧ b ≤ 20 ∧ k = .v ∧ d = .int (suI as bs cs)
def sp_excess (K : PySem.W.Frag) : Sp := spD K fun ds k d => ∃ (as bs cs : List Int) (v b : Int), ds = [.tuple (as.map .int), .tuple (bs.map .int), .tuple (cs.map .int)] ∧ Alc as v b ∧ Alc bs v b ∧ Alc cs v b ∧ 1 ≤ v ∧ v ≤ 5 ∧ b ≤ 20 ∧ k = .v ∧ d = .int (exI as bs cs)
def sp__law_excess (K : PySem.W.Frag) : Sp := spD K fun ds k d => ∃ (f g h : List Int) (v b : Int), ds = [.list [.tuple (f.map .int), .tuple (g.map .int), .tuple (h.map .int)]] ∧ Alc f v b ∧ Alc g v b ∧ Alc h v b ∧ v ≤ 1000 ∧ k = .v ∧ d = .int (exI f g h)
theorem alc_counts {ns : List Int} {v : Int} (hr : ∀ n ∈ ns, 0 ≤ n ∧ n < v) (hv : 0 ≤ v) : Alc (countsI ns v) v ns.length := by
  refine ⟨by rw [countsI_len]; omega, ?_, fun n hn => ?_⟩
  · exact count_sum v.toNat ns fun n hn => by have := hr n hn; omega
  · obtain ⟨i, _, rfl⟩ := List.mem_map.mp hn
    omega
/-! sums over three lists -/
def z3 (F : Int → Int → Int → Int) (as bs cs : List Int) : Int := ((List.range as.length).map fun j => F (as.getD j 0) (bs.getD j 0) (cs.getD j 0)).sum
variable {F : Int → Int → Int → Int} {as bs cs as' bs' cs' : List Int}
theorem z3_cons {a b c : Int} : z3 F (a :: as) (b :: bs) (c :: cs) = F a b c + z3 F as bs cs := by
  unfold z3
  rw [List.length_cons, List.range_succ_eq_map, List.map_cons, List.sum_cons, List.map_map]
  rfl
theorem med_z3 : (medI as bs cs).sum = z3 mid3 as bs cs := rfl
theorem z3_app : ∀ {as bs cs : List Int}, as.length = bs.length → as.length = cs.length → z3 F (as ++ as') (bs ++ bs') (cs ++ cs') = z3 F as bs cs + z3 F as' bs' cs'
  | [], [], [], _, _ => by simp [z3]
  | a :: as, b :: bs, c :: cs, h, g => by
    rw [List.cons_append, List.cons_append, List.cons_append, z3_cons, z3_cons, z3_app (by simpa using h) (by simpa using g)]
    omega
  | [], _ :: _, _, h, _ => by simp at h
  | _ :: _, [], _, h, _ => by simp at h
  | [], [], _ :: _, _, h => by simp at h
  | _ :: _, _ :: _, [], _, h => by simp at h
theorem z3_le : ∀ {as bs cs : List Int}, as.length = bs.length → as.length = cs.length → z3 mid3 as bs cs - as.sum ≤ zs t0 bs as
  | [], [], [], _, _ => by decide
  | a :: as, b :: bs, c :: cs, h, g => by
    have := z3_le (as := as) (bs := bs) (cs := cs) (by simpa using h) (by simpa using g)
    rw [z3_cons, zs_cons, List.sum_cons]
    have : mid3 a b c - a ≤ t0 b a := by unfold mid3 t0; (repeat' split) <;> omega
    omega
  | [], _ :: _, _, h, _ => by simp at h
  | _ :: _, [], _, h, _ => by simp at h
  | [], [], _ :: _, _, h => by simp at h
  | _ :: _, _ :: _, [], _, h => by simp at h
theorem z3_two : ∀ {as bs cs : List Int}, as.length = bs.length → as.length = cs.length → (∀ n ∈ as, 0 ≤ n) → (∀ n ∈ bs, 0 ≤ n) → (∀ n ∈ cs, 0 ≤ n) → 2 * z3 mid3 as bs cs ≤ as.sum + bs.sum + cs.sum
  | [], [], [], _, _, _, _, _ => by decide
  | a :: as, b :: bs, c :: cs, h, g, h1, h2, h3 => by
    have := z3_two (as := as) (bs := bs) (cs := cs) (by simpa using h) (by simpa using g) (fun n hn => h1 n (by simp [hn])) (fun n hn => h2 n (by simp [hn])) (fun n hn => h3 n (by simp [hn]))
    have a0 := h1 a (by simp)
    have b0 := h2 b (by simp)
    have c0 := h3 c (by simp)
    rw [z3_cons, List.sum_cons, List.sum_cons, List.sum_cons]
    have : 2 * mid3 a b c ≤ a + b + c := by unfold mid3; (repeat' split) <;> omega
    omega
  | [], _ :: _, _, h, _, _, _, _ => by simp at h
  | _ :: _, [], _, h, _, _, _, _ => by simp at h
  | [], [], _ :: _, _, h, _, _, _ => by simp at h
  | _ :: _, _ :: _, [], _, h, _, _, _ => by simp at h
variable {f g h : List Int} {v m : Int}
theorem su_12 (hf : Alc f v m) (hg : Alc g v m) : suI f g h = suI g f h := by unfold suI; rw [med_12 (hf.lens hg), hf.sum, hg.sum]
theorem su_23 : suI f g h = suI f h g := by unfold suI; rw [med_23]
theorem ex_12 (hf : Alc f v m) (hg : Alc g v m) : exI f g h = exI g f h := by unfold exI; rw [su_12 hf hg]
theorem ex_23 : exI f g h = exI f h g := by unfold exI; rw [su_23]
theorem ex_aba : exI f g f = 0 := by
  unfold exI suI
  rw [med_aba]
  split <;> omega
theorem ex_le (hf : Alc f v m) (hg : Alc g v m) (hh : Alc h v m) : exI f g h ≤ trI f g := by
  have l1 := hf.lens hg
  have := z3_le l1 (hf.lens hh)
  have e := hg.tr_comm hf
  rw [trI_zs l1, trI_zs l1.symm] at e
  rw [trI_zs l1]
  have n := zs_nn l1
  have e2 : suI f g h = z3 mid3 f g h - f.sum := rfl
  unfold exI
  split <;> omega
/-- turned round -/
def rotI (t : Nat) (f : List Int) : List Int := f.drop t ++ f.take t
theorem rot_alc {t : Nat} (hf : Alc f v m) : Alc (rotI t f) v m := by
  refine ⟨?_, ?_, fun n hn => ?_⟩
  · have := hf.len
    simp [rotI]; omega
  · have e : (f.take t ++ f.drop t).sum = f.sum := by rw [List.take_append_drop]
    rw [List.sum_append] at e
    unfold rotI
    rw [List.sum_append, ← hf.sum]
    omega
  · rcases List.mem_append.mp hn with q | q
    · exact hf.nn n (List.mem_of_mem_drop q)
    · exact hf.nn n (List.mem_of_mem_take q)
theorem rot_su {t : Nat} (hf : Alc f v m) (hg : Alc g v m) (hh : Alc h v m) : suI (rotI t f) (rotI t g) (rotI t h) = suI f g h := by
  have l1 := hf.lens hg
  have l2 := hf.lens hh
  unfold suI
  rw [(rot_alc hf).sum, hf.sum, med_z3, med_z3]
  have e : z3 mid3 f g h = z3 mid3 (f.take t ++ f.drop t) (g.take t ++ g.drop t) (h.take t ++ h.drop t) := by simp only [List.take_append_drop]
  rw [e, z3_app (by simp [l1]) (by simp [l2])]
  unfold rotI
  rw [z3_app (by simp [l1]) (by simp [l2])]
  omega
/-- one more at a place -/
def incI (p : Nat) (f : List Int) : List Int := f.take p ++ [f.getD p 0 + 1] ++ f.drop (p + 1)
theorem split_at {p : Nat} (hp : p < f.length) : f = f.take p ++ ([f.getD p 0] ++ f.drop (p + 1)) := by
  have e : f.drop p = f.getD p 0 :: f.drop (p + 1) := by
    rw [List.drop_eq_getElem_cons hp, gd_lt hp]
  rw [List.singleton_append, ← e, List.take_append_drop]
theorem inc_alc {p : Nat} (hf : Alc f v m) (hp : p < f.length) : Alc (incI p f) v (m + 1) := by
  refine ⟨?_, ?_, fun n hn => ?_⟩
  · have := hf.len
    simp [incI]; omega
  · have e := congrArg List.sum (split_at hp)
    rw [List.sum_append, List.sum_append, hf.sum] at e
    unfold incI
    rw [List.sum_append, List.sum_append]
    simp at e ⊢
    omega
  · unfold incI at hn
    simp only [List.mem_append, List.mem_singleton] at hn
    rcases hn with (q | q) | q
    · exact hf.nn n (List.mem_of_mem_take q)
    · have := hf.nn _ (gd_mem hp)
      omega
    · exact hf.nn n (List.mem_of_mem_drop q)
theorem mid_inc (a b c : Int) : mid3 (a + 1) (b + 1) (c + 1) = mid3 a b c + 1 := by unfold mid3; (repeat' split) <;> omega
theorem inc_su {p : Nat} (hf : Alc f v m) (hg : Alc g v m) (hh : Alc h v m) (hp : p < f.length) : suI (incI p f) (incI p g) (incI p h) = suI f g h := by
  have l1 := hf.lens hg
  have l2 := hf.lens hh
  unfold suI
  rw [(inc_alc hf hp).sum, hf.sum, med_z3, med_z3]
  have e : z3 mid3 f g h = z3 mid3 (f.take p ++ ([f.getD p 0] ++ f.drop (p + 1))) (g.take p ++ ([g.getD p 0] ++ g.drop (p + 1))) (h.take p ++ ([h.getD p 0] ++ h.drop (p + 1))) := by
    rw [← split_at hp, ← split_at (f := g) (by omega), ← split_at (f := h) (by omega)]
  rw [e, z3_app (by simp [l1]) (by simp [l2]), z3_app (as := [f.getD p 0]) (bs := [g.getD p 0]) (cs := [h.getD p 0]) rfl rfl]
  unfold incI
  rw [List.append_assoc, List.append_assoc, List.append_assoc, z3_app (by simp [l1]) (by simp [l2]), z3_app (as := [f.getD p 0 + 1]) (bs := [g.getD p 0 + 1]) (cs := [h.getD p 0 + 1]) rfl rfl]
  have e1 : z3 mid3 [f.getD p 0 + 1] [g.getD p 0 + 1] [h.getD p 0 + 1] = z3 mid3 [f.getD p 0] [g.getD p 0] [h.getD p 0] + 1 := by
    rw [z3_cons, z3_cons, mid_inc]
    omega
  omega
theorem ex_small (hf : Alc f v m) (hg : Alc g v m) (hh : Alc h v m) (q : v < 3 ∨ m < 2) : exI f g h = 0 := by
  have l1 := hf.lens hg
  have l2 := hf.lens hh
  have key : suI f g h ≤ 0 := by
    have e2 : suI f g h = z3 mid3 f g h - f.sum := rfl
    have two := z3_two l1 l2 hf.nn hg.nn hh.nn
    have s1 := hf.sum
    have s2 := hg.sum
    have s3 := hh.sum
    by_cases q2 : m < 2
    · omega
    · have hl := hf.len
      have : f.length < 3 := by omega
      match f, g, h, l1, l2, this with
      | [], [], [], _, _, _ => simp [z3] at *; omega
      | [x], [y], [z], _, _, _ =>
        rw [z3_cons] at e2
        simp [z3] at e2 s1 s2 s3
        have : mid3 x y z = m := by rw [s1, s2, s3]; unfold mid3; (repeat' split) <;> omega
        omega
      | [x, x'], [y, y'], [z, z'], _, _, _ =>
        rw [z3_cons, z3_cons] at e2
        simp [z3] at e2 s1 s2 s3
        have : mid3 x y z + mid3 x' y' z' = m := by unfold mid3; (repeat' split) <;> omega
        omega
  unfold exI
  split <;> omega
end Lm

/-! states, what can come next, and the ways on: the least changes -/
namespace Lm
open PySem PySem.Spec PyProof.Rows L2
abbrev gI (l : List Int) (i : Int) : Int := l.getD i.toNat 0
def lssI (p : Int) (l : List Int) : List Int := l.set p.toNat (gI l p - 1)
structure S3 where
  c : List Int
  l : List Int
  e : List Int
def optI (S : S3) (o : Int) : List Int :=
  if gI S.l o = 0 then [o] else (upI 0 S.e.length).filter fun i => decide (0 < gI S.e i) || (decide (i = o) && decide (gI S.l o < gI S.c o))
def aftI (S : S3) (o n : Int) : S3 := if n = o then ⟨lssI o S.c, S.l, S.e⟩ else ⟨lssI o S.c, lssI o S.l, lssI n S.e⟩
theorem dec_len {p : Int} {l : List Int} : (lssI p l).length = l.length := by simp [lssI]
theorem dec_get {p i v : Int} {l : List Int} (hl : (l.length : Int) = v) (hp : 0 ≤ p ∧ p < v) (hi : 0 ≤ i ∧ i < v) : gI (lssI p l) i = gI l i - (if p = i then 1 else 0) := by
  unfold gI lssI
  rw [List.getD_eq_getElem?_getD, List.getElem?_set]
  by_cases q : p = i
  · subst q
    rw [if_pos rfl, if_pos rfl, if_pos (by omega)]
    rfl
  · rw [if_neg (by omega), if_neg q, ← List.getD_eq_getElem?_getD]
    omega
theorem sum_setI {x : Int} : ∀ {l : List Int} {k : Nat}, k < l.length → (l.set k x).sum = l.sum - l.getD k 0 + x
  | [], _, h => by simp at h
  | a :: l, 0, _ => by
    show (x :: l).sum = (a :: l).sum - a + x
    rw [List.sum_cons, List.sum_cons]; omega
  | a :: l, k + 1, h => by
    have := sum_setI (l := l) (k := k) (x := x) (by simpa using h)
    show (a :: l.set k x).sum = (a :: l).sum - l.getD k 0 + x
    rw [List.sum_cons, List.sum_cons]; omega
theorem dec_sum {p v : Int} {l : List Int} (hl : (l.length : Int) = v) (hp : 0 ≤ p ∧ p < v) : (lssI p l).sum = l.sum - 1 := by
  unfold lssI
  rw [sum_setI (by omega)]
  unfold gI
  omega
/-- a state that stands before the buckets f -/
structure St (v : Int) (S : S3) (f : List Int) : Prop where
  cl : (S.c.length : Int) = v
  ll : (S.l.length : Int) = v
  el : (S.e.length : Int) = v
  cs : ∀ i, 0 ≤ i ∧ i < v → gI S.c i = f.count i
  ls : ∀ i, 0 ≤ i ∧ i < v → 0 ≤ gI S.l i ∧ gI S.l i ≤ f.count i
  es : ∀ i, 0 ≤ i ∧ i < v → 0 ≤ gI S.e i ∧ (gI S.l i = 0 ∨ gI S.e i = 0)
  sum : S.l.sum = S.e.sum
  rng : ∀ n ∈ f, 0 ≤ n ∧ n < v
/-- the buckets f become g, with what the state tells -/
structure Fit (v : Int) (S : S3) (f g : List Int) : Prop where
  len : g.length = f.length
  rng : ∀ n ∈ g, 0 ≤ n ∧ n < v
  out : ∀ i, 0 ≤ i ∧ i < v → outI i (f.zip g) = gI S.l i
  inn : ∀ i, 0 ≤ i ∧ i < v → innI i (f.zip g) = gI S.e i
variable {v o n : Int} {S : S3} {f g : List Int}
theorem out_le (i : Int) : ∀ {f g : List Int}, outI i (f.zip g) ≤ f.count i
  | [], _ => by simp [outI]
  | a :: f, [] => by simp [outI]
  | a :: f, b :: g => by
    have := out_le i (f := f) (g := g)
    rw [List.zip_cons_cons, List.count_cons]
    unfold outI
    by_cases h : a = i
    · subst h; simp; split <;> omega
    · rw [if_neg (fun z => h z.1), if_neg (by simpa using h)]; omega
theorem mem_opt (h : St v S (o :: f)) : n ∈ optI S o ↔ (0 ≤ n ∧ n < v) ∧ (if n = o then gI S.l o < gI S.c o else gI S.l o ≠ 0 ∧ 0 < gI S.e n) := by
  have ho := h.rng o (by simp)
  have c1 := h.cs o ho
  have c2 := h.es o ho
  have c3 := h.ls o ho
  have cp : 0 < (o :: f).count o := by simp
  unfold optI
  by_cases q : gI S.l o = 0
  · rw [if_pos q, List.mem_singleton]
    by_cases w : n = o
    · rw [if_pos w]
      exact ⟨fun _ => ⟨by omega, by omega⟩, fun _ => w⟩
    · rw [if_neg w]
      exact ⟨fun z => absurd z w, fun z => absurd q z.2.1⟩
  · rw [if_neg q, List.mem_filter, mem_upI]
    have el := h.el
    by_cases w : n = o
    · subst w
      rw [if_pos rfl]
      have e0 : gI S.e n = 0 := by rcases c2.2 with z | z; exact absurd z q; exact z
      simp only [e0]
      constructor
      · rintro ⟨h1, h2⟩
        exact ⟨by omega, by simpa using h2⟩
      · rintro ⟨h1, h2⟩
        exact ⟨by omega, by simpa using h2⟩
    · rw [if_neg w]
      constructor
      · rintro ⟨h1, h2⟩
        exact ⟨by omega, q, by simpa [w] using h2⟩
      · rintro ⟨h1, _, h2⟩
        exact ⟨by omega, by simpa [w] using h2⟩
theorem St.after (h : St v S (o :: f)) (hn : n ∈ optI S o) : St v (aftI S o n) f := by
  obtain ⟨rn, hn⟩ := (mem_opt h).mp hn
  have ho := h.rng o (by simp)
  have cc : ∀ i : Int, ((o :: f).count i : Int) = f.count i + (if o = i then 1 else 0) := fun i => by
    rw [List.count_cons]
    by_cases q : o = i <;> simp [q]
  have rf : ∀ n ∈ f, 0 ≤ n ∧ n < v := fun n hn => h.rng n (by simp [hn])
  unfold aftI
  by_cases w : n = o
  · rw [if_pos w] at hn ⊢
    refine ⟨by rw [dec_len]; exact h.cl, h.ll, h.el, fun i hi => ?_, fun i hi => ?_, h.es, h.sum, rf⟩
    · have := h.cs i hi
      rw [dec_get h.cl ho hi, this, cc]; omega
    · have c0 := h.cs o ho
      have c1 := h.ls i hi
      have c2 := cc i
      by_cases q : o = i
      · subst q
        rw [if_pos rfl] at c2
        show 0 ≤ gI S.l o ∧ gI S.l o ≤ _
        omega
      · rw [if_neg q] at c2
        show 0 ≤ gI S.l i ∧ gI S.l i ≤ _
        omega
  · rw [if_neg w] at hn ⊢
    refine ⟨by rw [dec_len]; exact h.cl, by rw [dec_len]; exact h.ll, by rw [dec_len]; exact h.el, fun i hi => ?_, fun i hi => ?_, fun i hi => ?_, ?_, rf⟩
    · have := h.cs i hi
      show gI (lssI o S.c) i = _
      rw [dec_get h.cl ho hi, this, cc]; omega
    · show 0 ≤ gI (lssI o S.l) i ∧ gI (lssI o S.l) i ≤ _
      rw [dec_get h.ll ho hi]
      have c1 := h.ls i hi
      have c2 := cc i
      by_cases q : o = i
      · subst q; rw [if_pos rfl] at c2 ⊢; omega
      · rw [if_neg q] at c2 ⊢; omega
    · show 0 ≤ gI (lssI n S.e) i ∧ (gI (lssI o S.l) i = 0 ∨ gI (lssI n S.e) i = 0)
      rw [dec_get h.ll ho hi, dec_get h.el rn hi]
      have c1 := h.es i hi
      have c2 := h.es n rn
      have c3 := h.ls i hi
      have c4 := h.es o ho
      by_cases q : n = i
      · subst q
        rw [if_pos rfl, if_neg (fun z => w z.symm)]
        omega
      · rw [if_neg q]
        by_cases q2 : o = i
        · subst q2; rw [if_pos rfl]; omega
        · rw [if_neg q2]; omega
    · show (lssI o S.l).sum = (lssI n S.e).sum
      rw [dec_sum h.ll ho, dec_sum h.el rn, h.sum]
theorem fit_cons (h : St v S (o :: f)) : Fit v S (o :: f) (n :: g) ↔ n ∈ optI S o ∧ Fit v (aftI S o n) f g := by
  have ho := h.rng o (by simp)
  have co := h.cs o ho
  have cc : ((o :: f).count o : Int) = f.count o + 1 := by rw [List.count_cons]; simp
  have zo : ∀ i, outI i ((o :: f).zip (n :: g)) = (if o = i ∧ n ≠ i then 1 else 0) + outI i (f.zip g) := fun i => rfl
  have zi : ∀ i, innI i ((o :: f).zip (n :: g)) = (if n = i ∧ o ≠ i then 1 else 0) + innI i (f.zip g) := fun i => rfl
  rw [mem_opt h]
  constructor
  · intro k
    have rn := k.rng n (by simp)
    have ko := k.out o ho
    have kn := k.inn n rn
    rw [zo] at ko
    rw [zi] at kn
    have lo := out_le o (f := f) (g := g)
    have no := out_nn o (f.zip g)
    have nn := inn_nn n (f.zip g)
    refine ⟨⟨rn, ?_⟩, by simpa using k.len, fun m hm => k.rng m (by simp [hm]), fun i hi => ?_, fun i hi => ?_⟩
    · by_cases w : n = o
      · rw [if_pos w]
        rw [if_neg (fun z => z.2 w)] at ko
        omega
      · rw [if_neg w]
        rw [if_pos ⟨rfl, w⟩] at ko
        rw [if_pos ⟨rfl, fun z => w z.symm⟩] at kn
        exact ⟨by omega, by omega⟩
    · have ki := k.out i hi
      rw [zo] at ki
      unfold aftI
      by_cases w : n = o
      · rw [if_pos w]
        rw [if_neg (fun z => z.2 (w.trans z.1))] at ki
        show _ = gI S.l i
        omega
      · rw [if_neg w]
        show _ = gI (lssI o S.l) i
        rw [dec_get h.ll ho hi]
        by_cases q : o = i
        · subst q; rw [if_pos ⟨rfl, w⟩] at ki; rw [if_pos rfl]; omega
        · rw [if_neg (fun z => q z.1)] at ki; rw [if_neg q]; omega
    · have ki := k.inn i hi
      rw [zi] at ki
      unfold aftI
      by_cases w : n = o
      · rw [if_pos w]
        rw [if_neg (fun z => z.2 (w.symm.trans z.1))] at ki
        show _ = gI S.e i
        omega
      · rw [if_neg w]
        show _ = gI (lssI n S.e) i
        rw [dec_get h.el rn hi]
        by_cases q : n = i
        · subst q; rw [if_pos ⟨rfl, fun z => w z.symm⟩] at ki; rw [if_pos rfl]; omega
        · rw [if_neg (fun z => q z.1)] at ki; rw [if_neg q]; omega
  · rintro ⟨⟨rn, hn⟩, k⟩
    refine ⟨by simpa using k.len, fun m hm => ?_, fun i hi => ?_, fun i hi => ?_⟩
    · rcases List.mem_cons.mp hm with q | q
      · rw [q]; exact rn
      · exact k.rng m q
    · have ki := k.out i hi
      rw [zo]
      unfold aftI at ki
      by_cases w : n = o
      · rw [if_pos w] at ki
        have ki' : outI i (f.zip g) = gI S.l i := ki
        rw [if_neg (fun z => z.2 (w.trans z.1))]
        omega
      · rw [if_neg w] at ki
        have ki' : outI i (f.zip g) = gI (lssI o S.l) i := ki
        rw [dec_get h.ll ho hi] at ki'
        by_cases q : o = i
        · subst q; rw [if_pos ⟨rfl, w⟩]; rw [if_pos rfl] at ki'; omega
        · rw [if_neg (fun z => q z.1)]; rw [if_neg q] at ki'; omega
    · have ki := k.inn i hi
      rw [zi]
      unfold aftI at ki
      by_cases w : n = o
      · rw [if_pos w] at ki
        have ki' : innI i (f.zip g) = gI S.e i := ki
        rw [if_neg (fun z => z.2 (w.symm.trans z.1))]
        omega
      · rw [if_neg w] at ki
        have ki' : innI i (f.zip g) = gI (lssI n S.e) i := ki
        rw [dec_get h.el rn hi] at ki'
        by_cases q : n = i
        · subst q; rw [if_pos ⟨rfl, fun z => w z.symm⟩]; rw [if_pos rfl] at ki'; omega
        · rw [if_neg (fun z => q z.1)]; rw [if_neg q] at ki'; omega
theorem pos_of_sum : ∀ {l : List Int}, 0 < l.sum → ∃ k, k < l.length ∧ 0 < l.getD k 0
  | [], h => by simp at h
  | a :: l, h => by
    by_cases q : 0 < a
    · exact ⟨0, by simp, q⟩
    · rw [List.sum_cons] at h
      obtain ⟨k, hk, e⟩ := pos_of_sum (l := l) (by omega)
      exact ⟨k + 1, by simpa using hk, e⟩
theorem getD_le_sum : ∀ {l : List Int} {k : Nat}, (∀ n ∈ l, 0 ≤ n) → l.getD k 0 ≤ l.sum
  | [], _, _ => by simp
  | a :: l, 0, h => by
    have := sum_nn (ns := l) fun n hn => h n (by simp [hn])
    show a ≤ (a :: l).sum
    rw [List.sum_cons]; omega
  | a :: l, k + 1, h => by
    have := getD_le_sum (l := l) (k := k) fun n hn => h n (by simp [hn])
    have := h a (by simp)
    show l.getD k 0 ≤ (a :: l).sum
    rw [List.sum_cons]; omega
theorem St.lnn (h : St v S f) : ∀ n ∈ S.l, 0 ≤ n := fun n hn => by
  obtain ⟨k, hk, rfl⟩ := List.getElem_of_mem hn
  have := (h.ls (k : Int) (by have := h.ll; omega)).1
  unfold gI at this
  rw [Int.toNat_natCast, gd_lt hk] at this
  exact this
theorem St.enn (h : St v S f) : ∀ n ∈ S.e, 0 ≤ n := fun n hn => by
  obtain ⟨k, hk, rfl⟩ := List.getElem_of_mem hn
  have := (h.es (k : Int) (by have := h.el; omega)).1
  unfold gI at this
  rw [Int.toNat_natCast, gd_lt hk] at this
  exact this
theorem opt_ne (h : St v S (o :: f)) : optI S o ≠ [] := by
  have ho := h.rng o (by simp)
  have co := h.cs o ho
  have lo := h.ls o ho
  have cp : 0 < (o :: f).count o := by simp
  intro e
  by_cases q : gI S.l o < gI S.c o
  · have : o ∈ optI S o := (mem_opt h).mpr ⟨ho, by rw [if_pos rfl]; exact q⟩
    rw [e] at this
    cases this
  · have p : 0 < S.l.sum := by
      have := getD_le_sum (l := S.l) (k := o.toNat) h.lnn
      unfold gI at q lo co
      omega
    rw [h.sum] at p
    obtain ⟨k, hk, ek⟩ := pos_of_sum p
    have el := h.el
    have lo0 : gI S.l o ≠ 0 := by omega
    have eo := (h.es o ho).2
    have gk : 0 < gI S.e (k : Int) := by unfold gI; rw [Int.toNat_natCast]; exact ek
    have hk' : (k : Int) ≠ o := fun z => by rw [z] at gk; omega
    have : (k : Int) ∈ optI S o := (mem_opt h).mpr ⟨by omega, by rw [if_neg hk']; exact ⟨lo0, gk⟩⟩
    rw [e] at this
    cases this
theorem fit_nil (h : St v S []) : Fit v S [] [] := by
  have z : ∀ i, 0 ≤ i ∧ i < v → gI S.l i = 0 := fun i hi => by have := h.ls i hi; rw [List.count_nil] at this; omega
  have s0 : S.e.sum = 0 := by
    rw [← h.sum]
    refine Decidable.byContradiction fun hne => ?_
    have := sum_nn h.lnn
    obtain ⟨k, hk, ek⟩ := pos_of_sum (l := S.l) (by omega)
    have := z (k : Int) (by have := h.ll; omega)
    unfold gI at this
    rw [Int.toNat_natCast] at this
    omega
  refine ⟨rfl, fun _ q => (nomatch q), fun i hi => (z i hi).symm, fun i hi => ?_⟩
  have := getD_le_sum (l := S.e) (k := i.toNat) h.enn
  have := (h.es i hi).1
  show 0 = S.e.getD i.toNat 0
  unfold gI at *
  omega
/-- the first way -/
def firstI : S3 → List Int → List Int
  | _, [] => []
  | S, o :: f => (optI S o).headD 0 :: firstI (aftI S o ((optI S o).headD 0)) f
theorem head_mem (h : St v S (o :: f)) : (optI S o).headD 0 ∈ optI S o := by
  have := opt_ne h
  cases q : optI S o with
  | nil => exact absurd q this
  | cons a l => simp
theorem first_fit : ∀ {f : List Int} {S : S3}, St v S f → Fit v S f (firstI S f)
  | [], _, h => fit_nil h
  | o :: f, S, h => (fit_cons h).mpr ⟨head_mem h, first_fit (h.after (head_mem h))⟩
theorem first_len : ∀ {f : List Int} {S : S3}, (firstI S f).length = f.length
  | [], _ => rfl
  | o :: f, S => by simp [firstI, first_len (f := f)]
/-- a list comes before another, or is it -/
def lexLe : List Int → List Int → Prop
  | [], _ => True
  | _ :: _, [] => False
  | a :: as, b :: bs => a < b ∨ (a = b ∧ lexLe as bs)
theorem lexLe_anti : ∀ {as bs : List Int}, lexLe as bs → lexLe bs as → as = bs
  | [], [], _, _ => rfl
  | [], _ :: _, _, h => h.elim
  | _ :: _, [], h, _ => h.elim
  | a :: as, b :: bs, h, g => by
    unfold lexLe at h g
    rcases h with h | ⟨rfl, h⟩
    · rcases g with g | ⟨g, _⟩ <;> omega
    · rcases g with g | ⟨_, g⟩
      · omega
      · rw [lexLe_anti h g]
theorem lexLe_rf : ∀ {as : List Int}, lexLe as as
  | [] => trivial
  | _ :: _ => .inr ⟨rfl, lexLe_rf⟩
theorem upI_pw (n : Nat) : (upI 0 n).Pairwise (· < ·) := by
  unfold upI
  rw [List.pairwise_map]
  refine List.pairwise_lt_range.imp fun {a b} h => ?_
  omega
theorem opt_sorted : (optI S o).Pairwise (· < ·) := by
  unfold optI
  split
  · exact List.pairwise_singleton ..
  · exact List.Pairwise.filter _ (upI_pw _)
theorem head_le {l : List Int} (h : l.Pairwise (· < ·)) : ∀ n ∈ l, l.headD 0 ≤ n := fun n hn => by
  cases l with
  | nil => cases hn
  | cons a l =>
    rcases List.mem_cons.mp hn with q | q
    · rw [q]; exact Int.le_refl _
    · exact Int.le_of_lt (List.rel_of_pairwise_cons h q)
theorem first_le : ∀ {f g : List Int} {S : S3}, St v S f → Fit v S f g → lexLe (firstI S f) g
  | [], _, _, _, _ => trivial
  | o :: f, [], S, h, k => by have := k.len; simp at this
  | o :: f, n :: g, S, h, k => by
    obtain ⟨hn, k2⟩ := (fit_cons h).mp k
    have := head_le opt_sorted n hn
    unfold firstI lexLe
    by_cases q : (optI S o).headD 0 = n
    · rw [q]
      exact .inr ⟨rfl, first_le (h.after hn) k2⟩
    · exact .inl (by omega)
/-! the state at the start -/
def s0I (v : Int) (f as : List Int) : S3 := ⟨countsI f v, lvI (countsI f v) as, enI (countsI f v) as⟩
variable {as : List Int}
theorem lv_get {cs as : List Int} (hl : cs.length = as.length) {j : Nat} (hj : j < cs.length) : (lvI cs as).getD j 0 = t0 (cs.getD j 0) (as.getD j 0) := by
  have h1 : j < (lvI cs as).length := by simp [lvI]; omega
  rw [gd_lt h1, gd_lt hj, gd_lt (by omega : j < as.length)]
  simp [lvI]
theorem en_get {cs as : List Int} (hl : cs.length = as.length) {j : Nat} (hj : j < cs.length) : (enI cs as).getD j 0 = t0 (as.getD j 0) (cs.getD j 0) := by
  have h1 : j < (enI cs as).length := by simp [enI]; omega
  rw [gd_lt h1, gd_lt hj, gd_lt (by omega : j < as.length)]
  simp [enI]
theorem st0 (hf : Asg f v) (ha : Alc as v f.length) (hv : 0 ≤ v) : St v (s0I v f as) f := by
  have hc := hf.alc hv
  have l := hc.lens ha
  have cl := hc.len
  have al := ha.len
  have z := zip_t0_sum l
  have ll : (lvI (countsI f v) as).length = (countsI f v).length := by simp [lvI]; omega
  have le : (enI (countsI f v) as).length = (countsI f v).length := by simp [enI]; omega
  have cg : ∀ i, 0 ≤ i ∧ i < v → gI (countsI f v) i = f.count i := fun i hi => by
    unfold gI
    rw [countsI_get (by omega), Int.toNat_of_nonneg hi.1]
  have lg : ∀ i, 0 ≤ i ∧ i < v → gI (lvI (countsI f v) as) i = t0 (f.count i) (gI as i) := fun i hi => by
    rw [← cg i hi]
    exact lv_get l (by omega)
  have eg : ∀ i, 0 ≤ i ∧ i < v → gI (enI (countsI f v) as) i = t0 (gI as i) (f.count i) := fun i hi => by
    rw [← cg i hi]
    exact en_get l (by omega)
  have an : ∀ i, 0 ≤ i ∧ i < v → 0 ≤ gI as i := fun i hi => ha.nn _ (gd_mem (by omega))
  refine ⟨cl, by show ((lvI (countsI f v) as).length : Int) = v; omega, by show ((enI (countsI f v) as).length : Int) = v; omega, cg, fun i hi => ?_, fun i hi => ?_, ?_, hf.rng⟩
  · have := an i hi
    show 0 ≤ gI (lvI (countsI f v) as) i ∧ gI (lvI (countsI f v) as) i ≤ _
    rw [lg i hi]
    unfold t0
    split <;> omega
  · show 0 ≤ gI (enI (countsI f v) as) i ∧ (gI (lvI (countsI f v) as) i = 0 ∨ gI (enI (countsI f v) as) i = 0)
    rw [lg i hi, eg i hi]
    unfold t0
    (repeat' split) <;> omega
  · show (lvI (countsI f v) as).sum = (enI (countsI f v) as).sum
    rw [z.1, z.2]
    have := zs_sub l
    have := hc.sum
    have := ha.sum
    omega
/-- the least changes -/
structure Lst (v : Int) (f as g : List Int) : Prop where
  asg : Asg g v
  len : g.length = f.length
  cnt : countsI g v = as
  chn : zs ne1 f g = trI (countsI f v) as
theorem fit_lst (hf : Asg f v) (ha : Alc as v f.length) (hv : 0 ≤ v) : Fit v (s0I v f as) f g ↔ Lst v f as g := by
  have hc := hf.alc hv
  have l := hc.lens ha
  have cl := hc.len
  have al := ha.len
  have cg : ∀ (f : List Int) i, 0 ≤ i ∧ i < v → gI (countsI f v) i = f.count i := fun f i hi => by
    unfold gI
    rw [countsI_get (by omega), Int.toNat_of_nonneg hi.1]
  have lg : ∀ i, 0 ≤ i ∧ i < v → gI (lvI (countsI f v) as) i = t0 (f.count i) (gI as i) := fun i hi => by
    rw [← cg f i hi]
    exact lv_get l (by omega)
  have eg : ∀ i, 0 ≤ i ∧ i < v → gI (enI (countsI f v) as) i = t0 (gI as i) (f.count i) := fun i hi => by
    rw [← cg f i hi]
    exact en_get l (by omega)
  have zr : ∀ p ∈ f.zip g, 0 ≤ p.1 ∧ p.1 < (v.toNat : Int) := fun p hp => by
    have := hf.rng _ (List.of_mem_zip hp).1
    omega
  have trs : trI (countsI f v) as = ((upI 0 v.toNat).map fun i => t0 (f.count i) (gI as i)).sum := by
    rw [trI_up l, countsI_len]
    congr 1
    apply List.map_congr_left
    intro i hi
    have r := mem_upI.mp hi
    have := cg f i (by omega)
    unfold gI at this
    rw [this]
  constructor
  · intro k
    have hl := k.len
    have hg : Asg g v := ⟨by rw [k.len]; exact hf.len, k.rng⟩
    refine ⟨hg, k.len, ?_, ?_⟩
    · apply List.ext_getElem
      · rw [countsI_len]; omega
      · intro j h1 h2
        have hj : (j : Int) < v := by rw [countsI_len] at h1; omega
        have e1 := countsI_get (ns := g) (v := v) (i := j) hj
        rw [gd_lt h1] at e1
        have d := count_diff (j : Int) (ns := f) (ms := g) hl.symm
        have ko := k.out (j : Int) (by omega)
        have ki := k.inn (j : Int) (by omega)
        have lj := lg (j : Int) (by omega)
        have ej := eg (j : Int) (by omega)
        have ko' : outI (j : Int) (f.zip g) = t0 (f.count (j : Int)) (gI as (j : Int)) := ko.trans lj
        have ki' : innI (j : Int) (f.zip g) = t0 (gI as (j : Int)) (f.count (j : Int)) := ki.trans ej
        have ga : gI as (j : Int) = as[j] := by unfold gI; rw [Int.toNat_natCast, gd_lt h2]
        rw [e1]
        unfold t0 at ko' ki'
        split at ko' <;> split at ki' <;> omega
    · rw [zs_neZ hl.symm, ← out_sum v.toNat zr, trs]
      congr 1
      apply List.map_congr_left
      intro i hi
      have r := mem_upI.mp hi
      exact (k.out i (by omega)).trans (lg i (by omega))
  · intro k
    have hl := k.len
    have hcnt : ∀ i, 0 ≤ i ∧ i < v → gI as i = g.count i := fun i hi => by rw [← k.cnt]; exact cg g i hi
    have le : ∀ i ∈ upI 0 v.toNat, t0 (f.count i) (gI as i) ≤ outI i (f.zip g) := fun i hi => by
      have r := mem_upI.mp hi
      have := count_diff i (ns := f) (ms := g) hl.symm
      have := out_nn i (f.zip g)
      have := inn_nn i (f.zip g)
      have := hcnt i (by omega)
      unfold t0
      split <;> omega
    have e := k.chn
    rw [zs_neZ hl.symm, ← out_sum v.toNat zr, trs] at e
    have all := (sum_eq_iff le).2.mp e
    refine ⟨hl, k.asg.rng, fun i hi => ?_, fun i hi => ?_⟩
    · exact (all i (mem_upI.mpr (by omega))).trans (lg i hi).symm
    · have e1 := all i (mem_upI.mpr (by omega))
      have := count_diff i (ns := f) (ms := g) hl.symm
      have c := hcnt i hi
      have e2 : gI (s0I v f as).e i = t0 (gI as i) (f.count i) := eg i hi
      rw [e2]
      unfold t0 at e1 ⊢
      (repeat' split at e1) <;> (repeat' split) <;> omega
end Lm

/-! the choices of a bucket; the order of all assignments -/
namespace Lm
open PySem PySem.Spec PyProof.Rows L2
variable {v o n : Int} {S : S3} {f g f1 f2 g1 g2 as : List Int}
theorem out_app (i : Int) : ∀ {z w}, outI i (z ++ w) = outI i z + outI i w
  | [], w => by simp [outI]
  | p :: z, w => by
    have := out_app i (z := z) (w := w)
    show _ + outI i (z ++ w) = (_ + outI i z) + outI i w
    omega
theorem inn_app (i : Int) : ∀ {z w}, innI i (z ++ w) = innI i z + innI i w
  | [], w => by simp [innI]
  | p :: z, w => by
    have := inn_app i (z := z) (w := w)
    show _ + innI i (z ++ w) = (_ + innI i z) + innI i w
    omega
theorem St.front (h : St v S (f1 ++ o :: f2)) : St v S (o :: (f1 ++ f2)) := by
  have e : ∀ i : Int, (o :: (f1 ++ f2)).count i = (f1 ++ o :: f2).count i := fun i => by
    rw [List.count_cons, List.count_append, List.count_append, List.count_cons]; omega
  refine ⟨h.cl, h.ll, h.el, fun i hi => by rw [e]; exact h.cs i hi, fun i hi => by rw [e]; exact h.ls i hi, h.es, h.sum, fun n hn => h.rng n ?_⟩
  simp only [List.mem_cons, List.mem_append] at hn ⊢
  rcases hn with a | a | a
  · exact .inr (.inl a)
  · exact .inl a
  · exact .inr (.inr a)
theorem fit_front (hl : g1.length = f1.length) : Fit v S (f1 ++ o :: f2) (g1 ++ n :: g2) ↔ Fit v S (o :: (f1 ++ f2)) (n :: (g1 ++ g2)) := by
  have e1 : ∀ i, outI i ((f1 ++ o :: f2).zip (g1 ++ n :: g2)) = outI i ((o :: (f1 ++ f2)).zip (n :: (g1 ++ g2))) := fun i => by
    rw [List.zip_append hl.symm, out_app, List.zip_cons_cons, List.zip_cons_cons, List.zip_append hl.symm]
    show _ + (_ + _) = _ + outI i _
    rw [out_app]; omega
  have e2 : ∀ i, innI i ((f1 ++ o :: f2).zip (g1 ++ n :: g2)) = innI i ((o :: (f1 ++ f2)).zip (n :: (g1 ++ g2))) := fun i => by
    rw [List.zip_append hl.symm, inn_app, List.zip_cons_cons, List.zip_cons_cons, List.zip_append hl.symm]
    show _ + (_ + _) = _ + innI i _
    rw [inn_app]; omega
  constructor
  · intro k
    refine ⟨by have := k.len; simp at this ⊢; omega, fun m hm => k.rng m ?_, fun i hi => by rw [← e1]; exact k.out i hi, fun i hi => by rw [← e2]; exact k.inn i hi⟩
    simp only [List.mem_cons, List.mem_append] at hm ⊢
    rcases hm with a | a | a
    · exact .inr (.inl a)
    · exact .inl a
    · exact .inr (.inr a)
  · intro k
    refine ⟨by have := k.len; simp at this ⊢; omega, fun m hm => k.rng m ?_, fun i hi => by rw [e1]; exact k.out i hi, fun i hi => by rw [e2]; exact k.inn i hi⟩
    simp only [List.mem_cons, List.mem_append] at hm ⊢
    rcases hm with a | a | a
    · exact .inr (.inl a)
    · exact .inl a
    · exact .inr (.inr a)
theorem split_b {l : List Int} {b : Nat} (hb : b < l.length) : l = l.take b ++ l.getD b 0 :: l.drop (b + 1) := by
  have e : l.drop b = l.getD b 0 :: l.drop (b + 1) := by rw [List.drop_eq_getElem_cons hb, gd_lt hb]
  rw [← e, List.take_append_drop]
/-- what a bucket can become -/
theorem opt_iff {b : Nat} (h : St v S f) (hb : b < f.length) : n ∈ optI S (f.getD b 0) ↔ ∃ g, Fit v S f g ∧ g.getD b 0 = n := by
  have sf := split_b hb
  have h' : St v S (f.take b ++ f.getD b 0 :: f.drop (b + 1)) := sf ▸ h
  have hF := h'.front
  constructor
  · intro hn
    have hA := hF.after hn
    have k := first_fit hA
    have kl := k.len
    have tl : (f.take b).length = b := by simp; omega
    have hg := (fit_cons hF (n := n) (g := firstI (aftI S (f.getD b 0) n) (f.take b ++ f.drop (b + 1)))).mpr ⟨hn, k⟩
    generalize firstI (aftI S (f.getD b 0) n) (f.take b ++ f.drop (b + 1)) = q at k kl hg
    rw [List.length_append, tl] at kl
    have gl : (q.take b).length = (f.take b).length := by simp; omega
    rw [← List.take_append_drop b q] at hg
    have hg2 := (fit_front gl).mpr hg
    rw [← sf] at hg2
    refine ⟨_, hg2, ?_⟩
    have gl2 : (q.take b).length = b := by omega
    rw [List.getD_eq_getElem?_getD, List.getElem?_append_right (by omega), gl2, Nat.sub_self]
    rfl
  · rintro ⟨g, k, rfl⟩
    have gb : b < g.length := by rw [k.len]; exact hb
    rw [sf] at k
    rw [split_b gb] at k
    have gl : (g.take b).length = (f.take b).length := by simp; omega
    exact ((fit_cons hF).mp ((fit_front gl).mp k)).1
theorem sorted_ext : ∀ {l1 l2 : List Int}, l1.Pairwise (· < ·) → l2.Pairwise (· < ·) → (∀ x, x ∈ l1 ↔ x ∈ l2) → l1 = l2
  | [], [], _, _, _ => rfl
  | [], b :: l2, _, _, h => by have := (h b).mpr (by simp); cases this
  | a :: l1, [], _, _, h => by have := (h a).mp (by simp); cases this
  | a :: l1, b :: l2, p1, p2, h => by
    obtain ⟨a1, q1⟩ := List.pairwise_cons.mp p1
    obtain ⟨a2, q2⟩ := List.pairwise_cons.mp p2
    have e : a = b := by
      rcases List.mem_cons.mp ((h a).mp (by simp)) with w | w
      · exact w
      · rcases List.mem_cons.mp ((h b).mpr (by simp)) with u | u
        · exact u.symm
        · have := a1 b u
          have := a2 a w
          omega
    subst e
    rw [sorted_ext q1 q2 fun x => ⟨fun hx => ?_, fun hx => ?_⟩]
    · rcases List.mem_cons.mp ((h x).mp (by simp [hx])) with w | w
      · have := a1 x hx; omega
      · exact w
    · rcases List.mem_cons.mp ((h x).mpr (by simp [hx])) with w | w
      · have := a2 x hx; omega
      · exact w
theorem sorted_lt {l l' : List Int} (hp : l'.Perm l) (hs : l'.Pairwise (· ≤ ·)) (hn : l.Nodup) : l'.Pairwise (· < ·) := by
  have hn' : l'.Nodup := hp.nodup_iff.mpr hn
  exact (hs.and hn').imp fun {a b} h => by have := h.1; have := h.2; omega
theorem opt_filter (h : St v S (o :: f)) : optI S o = (upI 0 v.toNat).filter fun i => decide (i ∈ optI S o) := by
  refine sorted_ext opt_sorted (List.Pairwise.filter _ (upI_pw _)) fun x => ?_
  rw [List.mem_filter, mem_upI]
  constructor
  · intro hx
    have := (mem_opt h).mp hx
    exact ⟨by omega, by simpa using hx⟩
  · rintro ⟨_, hx⟩
    simpa using hx
/-! the order of all assignments -/
def lexLt : List Int → List Int → Prop
  | a :: as, b :: bs => a < b ∨ (a = b ∧ lexLt as bs)
  | _, _ => False
theorem lexLt.le : ∀ {as bs : List Int}, lexLt as bs → lexLe as bs
  | [], _, _ => trivial
  | _ :: _, [], h => h.elim
  | a :: as, b :: bs, h => by
    unfold lexLt at h
    unfold lexLe
    rcases h with h | ⟨e, h⟩
    · exact .inl h
    · exact .inr ⟨e, h.le⟩
theorem lexLt_irr : ∀ {as : List Int}, ¬ lexLt as as
  | [], h => h.elim
  | a :: as, h => by
    unfold lexLt at h
    rcases h with h | ⟨_, h⟩
    · omega
    · exact lexLt_irr h
theorem lexLt_app {xs ys : List Int} : ∀ {as bs : List Int}, lexLt as bs → lexLt (as ++ xs) (bs ++ ys)
  | [], _, h => h.elim
  | _ :: _, [], h => h.elim
  | a :: as, b :: bs, h => by
    unfold lexLt at h
    show lexLt (a :: (as ++ xs)) (b :: (bs ++ ys))
    unfold lexLt
    rcases h with h | ⟨e, h⟩
    · exact .inl h
    · exact .inr ⟨e, lexLt_app h⟩
theorem lexLt_last {x y : Int} (h : x < y) : ∀ {as : List Int}, lexLt (as ++ [x]) (as ++ [y])
  | [] => .inl h
  | a :: as => .inr ⟨rfl, lexLt_last h⟩
theorem allL_pw (v : Int) : ∀ n, (allL v n).Pairwise lexLt
  | 0 => List.pairwise_singleton ..
  | n + 1 => by
    unfold allL
    rw [List.pairwise_flatMap]
    refine ⟨fun r _ => ?_, (allL_pw v n).imp fun {a b} h x hx y hy => ?_⟩
    · rw [List.pairwise_map]
      exact (upI_pw _).imp fun h => lexLt_last h
    · obtain ⟨i, _, rfl⟩ := List.mem_map.mp hx
      obtain ⟨j, _, rfl⟩ := List.mem_map.mp hy
      exact lexLt_app h
/-- in a list in order, an item at an earlier or the same place -/
theorem pw_le {l : List (List Int)} (h : l.Pairwise lexLt) {i j : Nat} (hi : i < l.length) (hj : j < l.length) (hij : i ≤ j) : lexLe l[i] l[j] := by
  by_cases q : i = j
  · subst q; exact lexLe_rf
  · exact (List.pairwise_iff_getElem.mp h i j hi hj (by omega)).le
end Lm

/-! lists put together; promises about states, choices, and the least changes gone through -/
namespace Lm
open PySem PySem.Spec PyProof.Rows L2
section
variable {c : Ct} {H H' H0 H1 H2 H3 : Hp} {O : List Addr} {Γ Γ' Γ1 : List (Option Rs)}
variable {te ta tb tx : TE} {k ka kb : Kd} {d x y z : PyData} {i j : Int} {ds es : List PyData}
theorem flatAll_app (h : flatAll ds = true) (g : flatAll es = true) : flatAll (ds ++ es) = true := flatAll_mem fun d hd => by
  rcases List.mem_append.mp hd with w | w
  · exact flatAll_one h w
  · exact flatAll_one g w
/-- xs + ys: a list of one's own and a new one -/
theorem e_catVO {n : Nat} (hx : Γ[n]? = some (some (.o (.list ds)))) (hds : flatAll ds = true) (hb : Ev c tb Γ .o (.list es)) (hes : flatAll es = true) (hl : ds.length + es.length ≤ 1000000) : Ev c (tOp (rAddA c.K) (tVar n) tb) Γ .o (.list (ds ++ es)) := fun H0 O H σ e Q q => by
  obtain ⟨v, fp, hv, f, nd, sub⟩ := e.slotO hx
  refine ⟨v, hv, hb H0 O H σ e _ fun u H2 r s => ?_⟩
  obtain ⟨v', fp', hv', f', nd', sub'⟩ := (e.on r).slotO hx
  have : v' = v := by rw [hv] at hv'; cases hv'; rfl
  subst this
  obtain ⟨p, xs, g, rfl, rfl, hp, fa⟩ := f'.list'
  obtain ⟨fq, fo, ndq, new⟩ := s
  obtain ⟨b, zs, g', rfl, rfl, hb', fb⟩ := fo.list'
  obtain ⟨_, al⟩ := fa.flat0 hds
  obtain ⟨_, bl⟩ := fb.flat0 hes
  refine .inr (.inr ⟨p, b, xs, zs, rfl, rfl, hp, hb', by rw [al.len, bl.len]; exact sizeOk hl, fun p' hp' => ?_⟩)
  have sm : Same H2 (upd H2 p' (.lst (xs ++ zs))) := fun b o z => by rw [upd_ne (ne_of_none z hp')]; exact z
  exact q _ _ (r.tr (Rr.same sm)) ⟨[p'], .lst upd_same (FoAll.leaves (flatAll_app hds hes) ((al.app bl).same sm)), by simp, fun a ha => by
    cases List.mem_singleton.mp ha
    exact r.back e.jH hp'⟩
theorem n_sortedD {ns ms : List Int} (h : Ev c te Γ k (.list (ns.map .int))) (hl : ns.length < 64) (hm : ∀ ns' : List Int, ns'.Perm ns → ns'.Pairwise (· ≤ ·) → ns' = ms) : Ev c (tCB (rSortedA c.K) (tCons te tNil)) Γ .o (.list (ms.map .int)) :=
  EvN.det ((n_sortedL h hl).imp fun d hd => by
    obtain ⟨ns', rfl, hp, hs⟩ := hd
    rw [hm ns' hp hs])
end
theorem i_rowsB {c : Ct} {Γ : List (Option Rs)} {tl : TE} {k : Kd} {l : List (List Int)} (h : Ev c tl Γ k (.list (l.map tupD))) : EvI c (iSeq c.K tl) Γ false (l.map tupI) := by
  have := i_seqB h (flatD_rows _)
  rwa [List.map_map] at this
theorem i_rows {c : Ct} {Γ : List (Option Rs)} {tl : TE} {k : Kd} {l : List (List Int)} (h : Ev c tl Γ k (.list (l.map tupD))) (hk : k ≠ .b) : EvI c (iSeq c.K tl) Γ true (l.map tupI) := by
  have := i_seqL h hk
  rwa [List.map_map] at this
abbrev stD (S : S3) : PyData := .tuple [.tuple (S.c.map .int), .tuple (S.l.map .int), .tuple (S.e.map .int)]
def enL (es : List Int) : List Int := (es.zipIdx.filter fun p => decide (0 < p.1)).map fun p => ((p.2 : Nat) : Int)
theorem enL_pw (es : List Int) : (enL es).Pairwise (· < ·) := by
  unfold enL
  rw [List.pairwise_map]
  refine List.Pairwise.filter _ ?_
  have : (es.zipIdx.map Prod.snd).Pairwise (· < ·) := by
    rw [List.zipIdx_map_snd]
    exact List.pairwise_lt_range'
  rw [List.pairwise_map] at this
  exact this.imp fun {a b} h => by omega
theorem mem_enL {es : List Int} {x : Int} : x ∈ enL es ↔ (0 ≤ x ∧ x < es.length) ∧ 0 < gI es x := by
  unfold enL
  rw [List.mem_map]
  constructor
  · rintro ⟨p, hp, rfl⟩
    obtain ⟨h1, h2⟩ := List.mem_filter.mp hp
    have := List.mem_zipIdx' h1
    obtain ⟨hl, e⟩ := this
    have h2' := of_decide_eq_true h2
    refine ⟨⟨by omega, by omega⟩, ?_⟩
    unfold gI
    rw [Int.toNat_natCast, gd_lt hl, ← e]
    exact h2'
  · rintro ⟨⟨h1, h2⟩, h3⟩
    obtain ⟨j, rfl⟩ := Int.eq_ofNat_of_zero_le h1
    have hj : j < es.length := by omega
    unfold gI at h3
    rw [Int.toNat_natCast, gd_lt hj] at h3
    refine ⟨(es[j], j), List.mem_filter.mpr ⟨?_, by simpa using h3⟩, rfl⟩
    exact List.mem_zipIdx_iff_getElem?.mpr (List.getElem?_eq_getElem hj)
variable {v o n : Int} {S : S3} {f g as : List Int}
theorem opt_of_sorted (h : St v S (o :: f)) (q : gI S.l o ≠ 0) {ns' : List Int} {b : Bool} (hb : b = decide (gI S.l o < gI S.c o)) (hp : ns'.Perm (enL S.e ++ if b = true then [o] else [])) (hs : ns'.Pairwise (· ≤ ·)) : ns' = optI S o := by
  have ho := h.rng o (by simp)
  have e0 : gI S.e o = 0 := by rcases (h.es o ho).2 with w | w; exact absurd w q; exact w
  have el := h.el
  have nd : (enL S.e ++ if b = true then [o] else []).Nodup := by
    refine List.nodup_append.mpr ⟨(enL_pw _).imp fun {a b} h => by omega, by split <;> simp, fun a ha b' hb' => ?_⟩
    split at hb'
    · rw [List.mem_singleton.mp hb']
      intro w
      rw [w] at ha
      have := (mem_enL.mp ha).2
      omega
    · cases hb'
  refine sorted_ext (sorted_lt hp hs nd) opt_sorted fun x => ?_
  rw [hp.mem_iff, List.mem_append, mem_enL, mem_opt h, hb]
  by_cases w : x = o
  · subst w
    rw [if_pos rfl]
    constructor
    · rintro (h | h)
      · omega
      · split at h
        · rename_i h1
          exact ⟨ho, of_decide_eq_true h1⟩
        · cases h
    · rintro ⟨_, h⟩
      exact .inr (by rw [if_pos (decide_eq_true h)]; simp)
  · rw [if_neg w]
    constructor
    · rintro (h | h)
      · exact ⟨by omega, q, h.2⟩
      · split at h
        · exact absurd (List.mem_singleton.mp h) w
        · cases h
    · rintro ⟨h1, _, h2⟩
      exact .inl ⟨by omega, h2⟩
theorem St.at (h : St v S f) {b : Nat} (hb : b < f.length) : St v S (f.getD b 0 :: (f.take b ++ f.drop (b + 1))) := by
  have h' : St v S (f.take b ++ f.getD b 0 :: f.drop (b + 1)) := split_b hb ▸ h
  exact h'.front
theorem opt_len (h : St v S (o :: f)) (h5 : v ≤ 5) : (optI S o).length ≤ 5 := by
  have ho := h.rng o (by simp)
  have el := h.el
  unfold optI
  split
  · simp
  · refine Nat.le_trans (List.length_filter_le ..) ?_
    simp [upI]; omega
def sp_options (K : PySem.W.Frag) : Sp := spD K fun ds k d => ∃ (S : S3) (v o : Int) (f : List Int), ds = [stD S, .int o] ∧ St v S (o :: f) ∧ v ≤ 5 ∧ k = .o ∧ d = .list ((optI S o).map .int)
def sp_check_bucket (K : PySem.W.Frag) : Sp := spD K fun ds k d => ∃ b n : Int, ds = [.int b, .int n] ∧ 0 ≤ b ∧ b < n ∧ k = .v ∧ d = .none
def sp_choices (K : PySem.W.Frag) : Sp := spD K fun ds k d => ∃ (as f : List Int) (v b : Int), ds = [.tuple (as.map .int), .tuple (f.map .int), .int b] ∧ Asg f v ∧ Alc as v f.length ∧ 1 ≤ v ∧ v ≤ 5 ∧ 0 ≤ b ∧ b < f.length ∧ k = .v ∧ d = .tuple ((optI (s0I v f as) (gI f b)).map .int)
def sp__law_all (K : PySem.W.Frag) : Sp := spD K fun ds k d => ∃ v b : Int, ds = [.int v, .int b] ∧ 1 ≤ v ∧ v ≤ 5 ∧ 0 ≤ b ∧ b ≤ 6 ∧ k = .o ∧ d = .list ((allL v b.toNat).map tupD)
def sp__law_given (K : PySem.W.Frag) : Sp := spS K fun ds k P => ds = [] ∧ k = .v ∧ P = fun d => ∃ (v : Int) (f as : List Int), d = .tuple [.int v, .int f.length, .tuple (f.map .int), .tuple (as.map .int)] ∧ Asg f v ∧ Alc as v f.length ∧ 1 ≤ v ∧ v ≤ 5 ∧ f.length ≤ 6
/-- the least changes, in order -/
def lstL (v : Int) (f as : List Int) : List (List Int) := ((allL v f.length).filter fun r => decide (countsI r v = as)).filter fun r => decide (zs ne1 f r = trI (countsI f v) as)
def sp__law_least (K : PySem.W.Frag) : Sp := spD K fun ds k d => ∃ (v : Int) (f as : List Int), ds = [.int v, .int f.length, .tuple (f.map .int), .tuple (as.map .int)] ∧ Asg f v ∧ Alc as v f.length ∧ 1 ≤ v ∧ v ≤ 5 ∧ f.length ≤ 6 ∧ k = .o ∧ d = .list ((lstL v f as).map tupD)
theorem mem_lstL (hf : Asg f v) (hv : 0 ≤ v) : g ∈ lstL v f as ↔ Lst v f as g := by
  unfold lstL
  rw [List.mem_filter, List.mem_filter, mem_allL hv, decide_eq_true_iff, decide_eq_true_iff]
  have := hf.len
  constructor
  · rintro ⟨⟨⟨h1, h2⟩, h3⟩, h4⟩
    exact ⟨⟨by omega, h2⟩, h1, h3, h4⟩
  · intro k
    exact ⟨⟨⟨k.len, k.asg.rng⟩, k.cnt⟩, k.chn⟩
theorem allL_small5 {n : Nat} (hv : v ≤ 5) (hn : n ≤ 6) : (allL v n).length ≤ 15625 := by
  rw [allL_len]
  exact Nat.le_trans (Nat.pow_le_pow_left (by omega : v.toNat ≤ 5) n) (Nat.pow_le_pow_right (by decide) hn)
theorem lstL_small (hv : v ≤ 5) (hn : f.length ≤ 6) : (lstL v f as).length ≤ 15625 :=
  Nat.le_trans (List.length_filter_le ..) (Nat.le_trans (List.length_filter_le ..) (allL_small5 hv hn))
/-- what a bucket is in some least change -/
theorem choice_iff (hf : Asg f v) (ha : Alc as v f.length) (hv : 0 ≤ v) {b : Nat} (hb : b < f.length) : n ∈ optI (s0I v f as) (f.getD b 0) ↔ ∃ g ∈ lstL v f as, g.getD b 0 = n := by
  rw [opt_iff (st0 hf ha hv) hb]
  constructor
  · rintro ⟨g, h1, h2⟩
    exact ⟨g, (mem_lstL hf hv).mpr ((fit_lst hf ha hv).mp h1), h2⟩
  · rintro ⟨g, h1, h2⟩
    exact ⟨g, (fit_lst hf ha hv).mpr ((mem_lstL hf hv).mp h1), h2⟩
theorem choice_filter (hf : Asg f v) (ha : Alc as v f.length) (hv : 0 ≤ v) {b : Nat} (hb : b < f.length) : optI (s0I v f as) (f.getD b 0) = (upI 0 v.toNat).filter fun i => (lstL v f as).any fun g => decide (g.getD b 0 = i) := by
  rw [opt_filter ((st0 hf ha hv).at hb)]
  apply List.filter_congr
  intro i _
  rw [Bool.eq_iff_iff, decide_eq_true_iff, choice_iff hf ha hv hb, List.any_eq_true]
  simp
/-- for many buckets: what is due -/
theorem opt_due (hf : Asg f v) (ha : Alc as v f.length) (hv : 0 ≤ v) {b : Nat} (hb : b < f.length) (x : Int) : x ∈ optI (s0I v f as) (f.getD b 0) ↔ (0 ≤ x ∧ x < v) ∧ ((x = f.getD b 0 ∧ 0 < gI as x) ∨ (gI as (f.getD b 0) < gI (countsI f v) (f.getD b 0) ∧ gI (countsI f v) x < gI as x)) := by
  have h := (st0 hf ha hv).at hb
  have ho := h.rng _ (List.mem_cons_self ..)
  have hc := hf.alc hv
  have l := hc.lens ha
  have cl := hc.len
  have al := ha.len
  have cg : ∀ i, 0 ≤ i ∧ i < v → gI (countsI f v) i = f.count i := fun i hi => by
    unfold gI
    rw [countsI_get (by omega), Int.toNat_of_nonneg hi.1]
  have lg : ∀ i, 0 ≤ i ∧ i < v → gI (s0I v f as).l i = t0 (gI (countsI f v) i) (gI as i) := fun i hi => lv_get l (by omega)
  have eg : ∀ i, 0 ≤ i ∧ i < v → gI (s0I v f as).e i = t0 (gI as i) (gI (countsI f v) i) := fun i hi => en_get l (by omega)
  have an : ∀ i, 0 ≤ i ∧ i < v → 0 ≤ gI as i := fun i hi => ha.nn _ (gd_mem (by omega))
  have pos : 0 < f.count (f.getD b 0) := List.count_pos_iff.mpr (gd_mem hb)
  rw [mem_opt h, lg _ ho]
  have sc : gI (s0I v f as).c (f.getD b 0) = gI (countsI f v) (f.getD b 0) := rfl
  rw [sc]
  have c0 := cg _ ho
  have a0 := an _ ho
  refine and_congr_right fun rx => ?_
  have ax := an x rx
  by_cases w : x = f.getD b 0
  · rw [if_pos w, w]
    unfold t0
    constructor
    · intro h
      refine .inl ⟨rfl, ?_⟩
      split at h <;> omega
    · rintro (⟨_, h⟩ | ⟨h1, h2⟩)
      · split <;> omega
      · omega
  · rw [if_neg w, eg x rx]
    unfold t0
    constructor
    · rintro ⟨h1, h2⟩
      refine .inr ⟨?_, ?_⟩
      · split at h1 <;> omega
      · split at h2 <;> omega
    · rintro (⟨h, _⟩ | ⟨h1, h2⟩)
      · exact absurd h w
      · refine ⟨?_, ?_⟩ <;> split <;> omega
end Lm

/-! list.index, list.count, in: over data; the first change and its promises -/
namespace L2
open PySem PySem.Spec PyProof.Rows
section
variable {X : Cx}
def rCntD (K : PySem.W.Frag) : V → List V → Hp → VK → Prop := fun x xs H Q => ∃ (a : Addr) (y : V) (d : PyData) (ds : List PyData), x = V.ref a ∧ xs = [y] ∧ Dp K H (V.ref a) (.list ds) ∧ Dp K H y d ∧
  SeqAt.shaped (.list ds) = true ∧ SeqAt.shaped d = true ∧ Q (.int (ds.countP (fun z => PyData.eqv z d) : Nat)) H
theorem mt_lcountD (hu : X.A.units + 65 < cLine) : MtR X "list.count" (rCntD X.K) := by
  intro pins s σ H x xs v us Q I rx rxs h
  obtain ⟨a, y, d, ds, rfl, rfl, hl, hy, sl, sd, q⟩ := h
  cases rx
  obtain ⟨uy, rfl, ry⟩ := rxs.one
  obtain ⟨bs, r1⟩ := Dp.reads I d y uy hy ry
  have hxs : PyData.canLayAll0 ds = true := SeqAt.canLay_of_shaped sl
  have hroom : X.A.units + 1 + min (PyData.depthAll ds) d.depth < cLine := room_in_shaped sd hu
  cases hl with
  | lst hs ha =>
    obtain ⟨its, rv, ⟨⟨cls, dd, data, sls⟩, n, ho, hc, hdn, hdt⟩, hlen⟩ := I.list hs
    simp only at hc hdt
    subst hc hdt
    obtain ⟨as, h4⟩ := Dp.readsAll I ds _ its ha rv
    have hmap : its.map (SeqAt.readOf s.heap) = ds := SeqAt.readsAll_map ds its as hxs h4
    refine call_meets PySem.F.slot_list_count ⟨_, ho, rfl⟩ PySem.F.entry_list_count (PySem.F.args_list_count_2 _ _)
      (SeqAt.list_countAt a its.toArray n dd sls uy (fun u => PyData.eqv (SeqAt.readOf s.heap u) d)) ⟨ho, SeqAt.items_eqAt (vs := its.toArray) (show ReadsAll s.heap its.toArray.toList ds as from h4) r1 hxs (SeqAt.canLay_of_shaped sd) hroom, ?_⟩
    have ec : its.toArray.toList.countP (fun u => PyData.eqv (SeqAt.readOf s.heap u) d) = ds.countP fun z => PyData.eqv z d := by
      show its.countP _ = _
      rw [← hmap, List.countP_map]
      rfl
    refine ⟨.int (ds.countP (fun z => PyData.eqv z d) : Nat), H, I.tok _, ⟨s.toks, ?_⟩, q⟩
    show Value.int ((its.toArray.toList.countP _ : Nat) : Int) s.toks = _
    rw [ec]
end
end L2
namespace Lm
open PySem PySem.Spec PyProof.Rows L2
section
variable {X : Cx} {K : PySem.W.Frag} (hK : X.K = K)
include hK
theorem k_lindex (hu : X.A.units + 65 < cLine) : MtR X "list.index" (rIndexD K) := hK ▸ mt_indexD hu
theorem k_lcount (hu : X.A.units + 65 < cLine) : MtR X "list.count" (rCntD K) := hK ▸ mt_lcountD hu
theorem k_inD (hu : X.A.units + 65 < cLine) : OpR X (compareOp .In) (rInD K) := hK ▸ op_inD hu
end
theorem rUnits5 {k : Nat} {A : Around} (hr : Room k A) : A.units + 65 < cLine := by have := hr.un; omega
section
variable {c : Ct} {H H' H0 H1 H2 H3 : Hp} {O : List Addr} {Γ Γ' Γ1 : List (Option Rs)}
variable {te ta tb tx : TE} {tr : TA} {k ka kb : Kd} {d x y z : PyData} {i j : Int} {ds es : List PyData}
theorem e_indexL {m : Nat} (ha : Ev c ta Γ ka (.list ds)) (hb : Ev c tb Γ kb d) (sl : SeqAt.shaped (.list ds) = true) (sd : SeqAt.shaped d = true) (hz : ds[m]? = some z) (hzd : PyData.eqv z d = true) (hno : ∀ (j : Nat) (z' : PyData), j < m → ds[j]? = some z' → PyData.eqv z' d = false) : Ev c (tBM c.K "list" (rIndexD c.K) ta (tCons tb tNil)) Γ .v (.int (m : Nat)) := fun H0 O H σ e Q q =>
  ha H0 O H σ e _ fun v H1 r1 s1 => by
    obtain ⟨p, xs, rfl, ok, sq, al⟩ := (Res.bo e s1).lst'
    refine ⟨.inl ⟨rfl, xs, sq⟩, a_cons hb a_nil H0 O H1 σ (e.on r1) _ fun vs H2 r2 s2 => ?_⟩
    obtain ⟨y, rfl, by2⟩ := BoAll.one s2
    have b1 : Bo c H2 (.ref p) (.list ds) := Res.bo e (Res.on e r1 r2 s1)
    exact ⟨p, y, d, ds, m, z, rfl, rfl, b1.dp, by2.dp, sl, sd, hz, hzd, hno, q _ H2 (r1.tr r2) (.int _)⟩
theorem e_countL (ha : Ev c ta Γ ka (.list ds)) (hb : Ev c tb Γ kb d) (sl : SeqAt.shaped (.list ds) = true) (sd : SeqAt.shaped d = true) : Ev c (tBM c.K "list" (rCntD c.K) ta (tCons tb tNil)) Γ .v (.int (ds.countP (fun z => PyData.eqv z d) : Nat)) := fun H0 O H σ e Q q =>
  ha H0 O H σ e _ fun v H1 r1 s1 => by
    obtain ⟨p, xs, rfl, ok, sq, al⟩ := (Res.bo e s1).lst'
    refine ⟨.inl ⟨rfl, xs, sq⟩, a_cons hb a_nil H0 O H1 σ (e.on r1) _ fun vs H2 r2 s2 => ?_⟩
    obtain ⟨y, rfl, by2⟩ := BoAll.one s2
    have b1 : Bo c H2 (.ref p) (.list ds) := Res.bo e (Res.on e r1 r2 s1)
    exact ⟨p, y, d, ds, rfl, rfl, b1.dp, by2.dp, sl, sd, q _ H2 (r1.tr r2) (.int _)⟩
end
/-! promises -/
variable {v o n : Int} {S : S3} {f g as : List Int}
def sp_one_less (K : PySem.W.Frag) : Sp := spD K fun ds k d => ∃ (ns : List Int) (p : Int), ds = [.tuple (ns.map .int), .int p] ∧ 0 ≤ p ∧ p < ns.length ∧ ns.length ≤ 1000 ∧ k = .v ∧ d = .tuple ((lssI p ns).map .int)
def sp_state_after (K : PySem.W.Frag) : Sp := spD K fun ds k d => ∃ (S : S3) (v o n : Int) (f : List Int), ds = [stD S, .int o, .int n] ∧ St v S (o :: f) ∧ 0 ≤ n ∧ n < v ∧ v ≤ 5 ∧ k = .v ∧ d = stD (aftI S o n)
def sp_first_way (K : PySem.W.Frag) : Sp := spD K fun ds k d => ∃ (S : S3) (v : Int) (f : List Int), ds = [stD S, .tuple (f.map .int)] ∧ St v S f ∧ v ≤ 5 ∧ f.length ≤ 20 ∧ k = .v ∧ d = .tuple ((firstI S f).map .int)
def sp_first_change (K : PySem.W.Frag) : Sp := spD K fun ds k d => ∃ (as f : List Int) (v : Int), ds = [.tuple (as.map .int), .tuple (f.map .int)] ∧ Asg f v ∧ Alc as v f.length ∧ 1 ≤ v ∧ v ≤ 5 ∧ k = .v ∧ d = .tuple ((firstI (s0I v f as) f).map .int)
/-- what another assignment moves in excess -/
def exD (v : Int) (f as g : List Int) : PyData := if countsI g v = as then .int (zs ne1 f g - trI (countsI f v) as) else .none
theorem lss_app {p : Nat} {ns : List Int} (hp : p < ns.length) : ns.take p ++ [ns.getD p 0 - 1] ++ ns.drop (p + 1) = lssI p ns := by
  unfold lssI gI
  rw [Int.toNat_natCast, List.set_eq_take_append_cons_drop, if_pos hp]
  simp
theorem flat_st (S : S3) : flatD (stD S) = true := flat3 S.c S.l S.e
/-- the state before the n-th bucket on the first way -/
def wayS : S3 → List Int → Nat → S3
  | S, _, 0 => S
  | S, [], _ + 1 => S
  | S, o :: f, n + 1 => wayS (aftI S o ((optI S o).headD 0)) f n
theorem way_st : ∀ {f : List Int} {S : S3} {n : Nat}, St v S f → n ≤ f.length → St v (wayS S f n) (f.drop n)
  | [], _, 0, h, _ => h
  | _ :: _, _, 0, h, _ => h
  | [], _, _ + 1, _, hn => by simp at hn
  | o :: f, S, n + 1, h, hn => way_st (f := f) (h.after (head_mem h)) (by simpa using hn)
theorem way_next : ∀ {f : List Int} {S : S3} {n : Nat} (hn : n < f.length), wayS S f (n + 1) = aftI (wayS S f n) f[n] ((optI (wayS S f n) f[n]).headD 0)
  | [], _, _, hn => by simp at hn
  | o :: f, S, 0, _ => by
    show wayS _ f 0 = _
    cases f <;> rfl
  | o :: f, S, n + 1, hn => way_next (f := f) (by simpa using hn)
theorem way_first : ∀ {f : List Int} {S : S3} {n : Nat} (hn : n < f.length), (firstI S f).take (n + 1) = (firstI S f).take n ++ [(optI (wayS S f n) f[n]).headD 0]
  | [], _, _, hn => by simp at hn
  | o :: f, S, 0, _ => by simp [firstI, wayS]
  | o :: f, S, n + 1, hn => by
    have := way_first (f := f) (S := aftI S o ((optI S o).headD 0)) (n := n) (by simpa using hn)
    simp only [firstI, List.take_succ_cons, List.cons_append]
    rw [this]
    rfl
/-- in the list of all assignments: the first change is the first that is a least one -/
theorem first_is (hf : Asg f v) (ha : Alc as v f.length) (hv : 0 ≤ v) {i : Nat} {l : List (List Int)} (hl : l = (allL v f.length).filter fun r => decide (countsI r v = as)) (hi : i < l.length) (hz : zs ne1 f l[i] = trI (countsI f v) as) (hno : ∀ j, j < i → ∀ hj : j < l.length, zs ne1 f l[j] ≠ trI (countsI f v) as) : l[i] = firstI (s0I v f as) f := by
  have h0 := st0 hf ha hv
  have k := first_fit h0
  have kl := (fit_lst hf ha hv).mp k
  have mem : ∀ r, r ∈ l ↔ (r.length = f.length ∧ ∀ x ∈ r, 0 ≤ x ∧ x < v) ∧ countsI r v = as := fun r => by
    rw [hl, List.mem_filter, mem_allL hv, decide_eq_true_iff]
  have hF : firstI (s0I v f as) f ∈ l := (mem _).mpr ⟨⟨kl.len, kl.asg.rng⟩, kl.cnt⟩
  obtain ⟨j, hj, ej⟩ := List.getElem_of_mem hF
  have hij : i ≤ j := by
    refine Decidable.byContradiction fun hc => ?_
    exact hno j (by omega) hj (by rw [ej]; exact kl.chn)
  have pw : l.Pairwise lexLt := by rw [hl]; exact (allL_pw v _).filter _
  have le := pw_le pw hi hj hij
  rw [ej] at le
  obtain ⟨⟨h1, h2⟩, h3⟩ := (mem _).mp (List.getElem_mem hi)
  have f20 := hf.len
  have ki := (fit_lst (g := l[i]) hf ha hv).mpr ⟨⟨by omega, h2⟩, h1, h3, hz⟩
  exact lexLe_anti le (first_le h0 ki)
end Lm
namespace Lm
open PySem PySem.Spec PyProof.Rows L2
def sp_excessC (K : PySem.W.Frag) : Sp := spD K fun ds k d => ∃ (as f g : List Int) (v : Int), ds = [.tuple (as.map .int), .tuple (f.map .int), .tuple (g.map .int)] ∧ Asg f v ∧ Asg g v ∧ f.length = g.length ∧ Alc as v f.length ∧ 1 ≤ v ∧ v ≤ 5 ∧ k = .v ∧ d = exD v f as g
end Lm
namespace Lm
open PySem PySem.Spec PyProof.Rows L2
variable {c : Ct} {Γ : List (Option Rs)} {ta tb : TE} {ka kb : Kd}
theorem n_lstNN {Pa Pb : PyData → Prop} (ha : EvN c ta Γ ka Pa) (hb : EvN c tb Γ kb Pb) (hx : ∀ y, Pa y → flatD y = true) (hp : ∀ y, Pb y → flatD y = true) : EvN c (tLst (tCons ta (tCons tb tNil))) Γ .o (fun d => ∃ x y, d = .list [x, y] ∧ Pa x ∧ Pb y) := fun H0 O H σ e Q q =>
  ha H0 O H σ e _ fun v x H1 px r1 s1 => hb H0 O H1 σ (e.on r1) _ fun u y H2 py r2 s2 => by
    refine ⟨by show 2 ≤ sizeLine; decide, fun p hp' => ?_⟩
    have sm : Same H2 (upd H2 p (.lst [v, u])) := fun b u z => by rw [upd_ne (ne_of_none z hp')]; exact z
    have al : BoAll c H2 [v, u] [x, y] := .cons (Res.bo e (Res.on e r1 r2 s1)) (.cons (Res.bo (e.on r1) s2) .nil)
    have fl : flatAll [x, y] = true := flatAll_mem fun d hd => by
      rcases List.mem_cons.mp hd with w | w
      · rw [w]; exact hx x px
      · rw [List.mem_singleton.mp w]; exact hp y py
    refine q _ _ _ ⟨x, y, rfl, px, py⟩ ((r1.tr r2).tr (Rr.same sm)) ⟨[p], .lst upd_same (FoAll.leaves fl (al.same sm)), by simp, fun a ha => ?_⟩
    cases List.mem_singleton.mp ha
    exact (r1.tr r2).back e.jH hp'
end Lm

/-! renamed and rearranged alike: churn, transfer and the number of ways stay -/
namespace Lm
open PySem PySem.Spec PyProof.Rows L2
variable {v o n m : Int} {S : S3} {f g as os nm : List Int}
def rnI (f os nm : List Int) : List Int := os.map fun k => gI nm (gI f k)
def sp__law_renamed (K : PySem.W.Frag) : Sp := spD K fun ds k d => ∃ (f os nm : List Int) (v : Int), ds = [.tuple (f.map .int), .tuple (os.map .int), .tuple (nm.map .int)] ∧ Asg f v ∧ IsOrd os f.length ∧ IsOrd nm v ∧ k = .v ∧ d = .tuple ((rnI f os nm).map .int)
theorem upI_gI (l : List Int) : (upI 0 l.length).map (gI l) = l := by
  apply List.ext_getElem
  · simp [upI]
  · intro i h1 h2
    simp only [List.getElem_map, upI, List.getElem_range]
    show l.getD (0 + (i : Int)).toNat 0 = l[i]
    have : (0 + (i : Int)).toNat = i := by omega
    rw [this, gd_lt h2]
theorem ord_perm (o : IsOrd os m) : (upI 0 m.toNat).Perm os := by
  have := o.perm
  have e : m.toNat = os.length := by have := o.len; omega
  rw [e]; exact this
theorem ord_sum (o : IsOrd os m) (h : Int → Int) : (os.map h).sum = ((upI 0 m.toNat).map h).sum := (perm_sum ((ord_perm o).map h)).symm
theorem ord_sum2 (o : IsOrd os m) (h : Int → Int) : ((upI 0 m.toNat).map h).sum = ((upI 0 m.toNat).map fun i => h (gI os i)).sum := by
  rw [← ord_sum o]
  have e : m.toNat = os.length := by have := o.len; omega
  rw [e]
  have : os.map h = ((upI 0 os.length).map (gI os)).map h := by rw [upI_gI]
  rw [this, List.map_map]
  rfl
theorem ord_inj (o : IsOrd os m) {i j : Int} (hi : 0 ≤ i ∧ i < m) (hj : 0 ≤ j ∧ j < m) : gI os i = gI os j ↔ i = j := by
  refine ⟨fun e => ?_, fun e => by rw [e]⟩
  have ol := o.len
  unfold gI at e
  rw [gd_lt (by omega), gd_lt (by omega)] at e
  have := nodup_inj o.nd (by omega) (by omega) e
  omega
theorem rn_len : (rnI f os nm).length = os.length := by simp [rnI]
theorem rn_asg (hf : Asg f v) (o : IsOrd os f.length) (q : IsOrd nm v) : Asg (rnI f os nm) v := by
  have ol := o.len
  refine ⟨by rw [rn_len]; have := hf.len; omega, fun n hn => ?_⟩
  obtain ⟨k, hk, rfl⟩ := List.mem_map.mp hn
  have rk := o.rng k hk
  have r := hf.rng (gI f k) (gd_mem (by omega))
  exact q.rng _ (gd_mem (by have := q.len; omega))
theorem rn_at {j : Nat} (hj : j < os.length) : (rnI f os nm).getD j 0 = gI nm (gI f (os.getD j 0)) := by
  have h1 : j < (rnI f os nm).length := by rw [rn_len]; exact hj
  rw [gd_lt h1, gd_lt hj]
  simp [rnI]
theorem rn_churn (hf : Asg f v) (hg : Asg g v) (hl : f.length = g.length) (o : IsOrd os f.length) (q : IsOrd nm v) : zs ne1 (rnI f os nm) (rnI g os nm) = zs ne1 f g := by
  have ol := o.len
  have e1 : zs ne1 (rnI f os nm) (rnI g os nm) = (os.map fun k => ne1 (gI nm (gI f k)) (gI nm (gI g k))).sum := by
    unfold zs
    rw [rn_len]
    have e : os.map (fun k => ne1 (gI nm (gI f k)) (gI nm (gI g k))) = (List.range os.length).map fun j => ne1 (gI nm (gI f (os.getD j 0))) (gI nm (gI g (os.getD j 0))) := by
      apply List.ext_getElem
      · simp
      · intro i h1 h2
        have : i < os.length := by simpa using h1
        rw [List.getElem_map, List.getElem_map, List.getElem_range, gd_lt this]
    rw [e]
    congr 1
    apply List.map_congr_left
    intro j hj
    have := List.mem_range.mp hj
    rw [rn_at this, rn_at this]
  rw [e1, ord_sum o]
  unfold zs
  have e2 : (upI 0 (f.length : Int).toNat) = (List.range f.length).map fun (i : Nat) => 0 + (i : Int) := by unfold upI; rw [Int.toNat_natCast]
  rw [e2, List.map_map]
  congr 1
  apply List.map_congr_left
  intro j hj
  have hj' := List.mem_range.mp hj
  show ne1 (gI nm (gI f (0 + (j : Int)))) (gI nm (gI g (0 + (j : Int)))) = ne1 (f.getD j 0) (g.getD j 0)
  have z : 0 + (j : Int) = j := by omega
  rw [z]
  have r1 := hf.rng (gI f j) (gd_mem (by omega))
  have r2 := hg.rng (gI g j) (gd_mem (by omega))
  have i := ord_inj q r1 r2
  have ge1 : gI f (j : Int) = f.getD j 0 := rfl
  have ge2 : gI g (j : Int) = g.getD j 0 := rfl
  rw [ge1, ge2] at i ⊢
  unfold ne1
  by_cases w : f.getD j 0 = g.getD j 0
  · rw [if_pos w, if_pos (i.mpr w)]
  · rw [if_neg w, if_neg (fun z => w (i.mp z))]
theorem rn_count (hf : Asg f v) (o : IsOrd os f.length) (q : IsOrd nm v) {i : Int} (hi : 0 ≤ i ∧ i < v) : (rnI f os nm).count (gI nm i) = f.count i := by
  have p : (rnI f os nm).Perm (f.map (gI nm)) := by
    have := ((ord_perm o).map fun k => gI nm (gI f k)).symm
    refine this.trans ?_
    have e : (upI 0 (f.length : Int).toNat) = upI 0 f.length := by simp
    rw [e]
    have e2 : (upI 0 f.length).map (fun k => gI nm (gI f k)) = ((upI 0 f.length).map (gI f)).map (gI nm) := by rw [List.map_map]; rfl
    rw [e2, upI_gI]
  rw [p.count_eq]
  have r := hf.rng
  clear p o hf
  induction f with
  | nil => rfl
  | cons a f ih =>
    rw [List.map_cons, List.count_cons, List.count_cons, ih fun n hn => r n (by simp [hn])]
    have := ord_inj q (r a (by simp)) hi
    congr 1
    by_cases w : a = i
    · subst w; simp
    · have w' : ¬ gI nm a = gI nm i := fun z => w (this.mp z)
      rw [beq_eq_false_iff_ne.mpr w', beq_eq_false_iff_ne.mpr w]
theorem rn_tr (hf : Asg f v) (hg : Asg g v) (hl : f.length = g.length) (o : IsOrd os f.length) (q : IsOrd nm v) (hv : 0 ≤ v) : trI (countsI (rnI f os nm) v) (countsI (rnI g os nm) v) = trI (countsI f v) (countsI g v) := by
  rw [trI_counts hv, trI_counts hv, ord_sum2 q]
  congr 1
  apply List.map_congr_left
  intro i hi
  have r := mem_upI.mp hi
  rw [rn_count hf o q (by omega), rn_count hg (hl ▸ o) q (by omega)]
theorem prodN_perm {l l' : List Nat} (h : l.Perm l') : prodN l = prodN l' := by
  induction h with
  | nil => rfl
  | cons x _ ih => show _ * _ = _ * _; rw [ih]
  | swap x y l => show y * (x * _) = x * (y * _); rw [Nat.mul_left_comm]
  | trans _ _ h1 h2 => exact h1.trans h2
theorem ord_prod (o : IsOrd nm v) (h : Nat → Nat) : prodN ((List.range v.toNat).map h) = prodN ((List.range v.toNat).map fun (i : Nat) => h (gI nm (i : Int)).toNat) := by
  have e : v.toNat = nm.length := by have := o.len; omega
  have p : (List.range v.toNat).Perm (nm.map Int.toNat) := by
    have := (ord_perm o).map Int.toNat
    have e3 : (upI 0 v.toNat).map Int.toNat = List.range v.toNat := by simp [upI, Function.comp_def]
    rwa [e3] at this
  rw [prodN_perm (p.map h), List.map_map]
  have e2 : nm.map (h ∘ Int.toNat) = (List.range v.toNat).map fun (i : Nat) => h (gI nm (i : Int)).toNat := by
    apply List.ext_getElem
    · simp [e]
    · intro i h1 h2
      have : i < nm.length := by simpa using h1
      simp only [List.getElem_map, List.getElem_range, Function.comp_def]
      show h _ = h (nm.getD (i : Int).toNat 0).toNat
      rw [Int.toNat_natCast, gd_lt this]
  rw [e2]
theorem ways_T {cs : List Int} {b : Int} (hc : Alc cs v b) (ha : Alc as v b) : (trI cs as).toNat = ((List.range cs.length).map fun j => nAt as j - nAt cs j).sum := by
  have l := hc.lens ha
  rw [← en_sum l hc.nn ha.nn, (zip_t0_sum l).2, ← trI_zs l.symm, hc.tr_comm ha]
/-- the number of ways does not depend on the names -/
theorem ways_inv {cs cs' as' : List Int} {b : Int} (hc : Alc cs v b) (ha : Alc as v b) (hc' : Alc cs' v b) (ha' : Alc as' v b) (o : IsOrd nm v) (ht : trI cs' as' = trI cs as)
    (h1 : ∀ i : Nat, (i : Int) < v → nAt cs' (gI nm i).toNat = nAt cs i) (h2 : ∀ i : Nat, (i : Int) < v → nAt as' (gI nm i).toNat = nAt as i) :
    waysN cs' (lvI cs' as') (enI cs' as') = waysN cs (lvI cs as) (enI cs as) := by
  have L := left_right (hc.lens ha) hc.nn ha.nn (ways_T hc ha)
  have L' := left_right (hc'.lens ha') hc'.nn ha'.nn (ways_T hc' ha')
  have cl : cs.length = v.toNat := by have := hc.len; omega
  have cl' : cs'.length = v.toNat := by have := hc'.len; omega
  rw [cl] at L
  rw [cl', ht, ord_prod o (gL cs' as'), ord_prod o fun j => fac (nAt cs' j)] at L'
  have e1 : ((List.range v.toNat).map fun (i : Nat) => gL cs' as' (gI nm i).toNat) = (List.range v.toNat).map (gL cs as) := List.map_congr_left fun i hi => by
    have := List.mem_range.mp hi
    unfold gL
    rw [h1 i (by omega), h2 i (by omega)]
  have e2 : ((List.range v.toNat).map fun (i : Nat) => fac (nAt cs' (gI nm i).toNat)) = (List.range v.toNat).map fun j => fac (nAt cs j) := List.map_congr_left fun i hi => by
    have := List.mem_range.mp hi
    rw [h1 i (by omega)]
  rw [e1, e2] at L'
  have gp : 0 < prodN ((List.range v.toNat).map (gL cs as)) := prodN_pos fun a h => by
    obtain ⟨j, _, rfl⟩ := List.mem_map.mp h
    exact Nat.mul_pos (Nat.mul_pos (fac_pos _) (fac_pos _)) (fac_pos _)
  exact Nat.eq_of_mul_eq_mul_right gp (L'.trans L.symm)
theorem rn_ways (hf : Asg f v) (hg : Asg g v) (hl : f.length = g.length) (o : IsOrd os f.length) (q : IsOrd nm v) (hv : 0 ≤ v) :
    waysN (countsI (rnI f os nm) v) (lvI (countsI (rnI f os nm) v) (countsI (rnI g os nm) v)) (enI (countsI (rnI f os nm) v) (countsI (rnI g os nm) v)) = waysN (countsI f v) (lvI (countsI f v) (countsI g v)) (enI (countsI f v) (countsI g v)) := by
  have ol := o.len
  have rf := rn_asg hf o q
  have rg := rn_asg hg (hl ▸ o) q
  have a1 := hf.alc hv
  have a2 := hg.alc hv
  have a3 := rf.alc hv
  have a4 := rg.alc hv
  rw [← hl] at a2
  rw [rn_len, ol] at a3 a4
  have ng : ∀ (w : List Int) (i : Nat), (i : Int) < v → nAt (countsI w v) i = w.count (i : Int) := fun w i hi => by
    unfold nAt
    rw [countsI_get hi]
    omega
  refine ways_inv a1 a2 a3 a4 q (rn_tr hf hg hl o q hv) (fun i hi => ?_) fun i hi => ?_
  all_goals
    have r := q.rng (gI nm i) (gd_mem (by have := q.len; omega))
    rw [ng _ _ (by omega), ng _ _ hi]
    have e : (((gI nm i).toNat : Nat) : Int) = gI nm i := by omega
    rw [e]
  · exact rn_count hf o q (by omega)
  · exact rn_count hg (hl ▸ o) q (by omega)
/-- both ways alike -/
theorem due_sym (hf : Asg f v) (hg : Asg g v) (hl : f.length = g.length) (hv : 0 ≤ v) : isNoneD (dueF (countsI g v) (countsI f v) (mvL g f)) = isNoneD (dueF (countsI f v) (countsI g v) (mvL f g)) := by
  rw [due_iff hf hg hl hv, due_iff hg hf hl.symm hv]
  have e1 : zs ne1 g f = zs ne1 f g := by
    unfold zs
    rw [hl]
    congr 1
    apply List.map_congr_left
    intro j _
    show ne1 _ _ = ne1 _ _
    unfold ne1
    by_cases w : f.getD j 0 = g.getD j 0
    · rw [if_pos w, if_pos w.symm]
    · rw [if_neg w, if_neg (fun z => w z.symm)]
  have a1 := hf.alc hv
  have a2 := hg.alc hv
  rw [← hl] at a2
  rw [e1, a1.tr_comm a2]
end Lm

/-! found.append(left.pop(..)); orders as lists -/
namespace Lm
open PySem PySem.Spec PyProof.Rows L2
section
variable {c : Ct} {H H' H0 H1 H2 H3 : Hp} {O : List Addr} {Γ Γ' Γ1 : List (Option Rs)}
variable {te ta tb tx : TE} {tr : TA} {u : TS} {k ka kb : Kd} {d x y z : PyData} {i j : Int} {ds es : List PyData} {P : Out → Prop}
theorem bo_erase {xs : List V} {ds : List PyData} (h : BoAll c H xs ds) : ∀ k : Nat, BoAll c H (xs.eraseIdx k) (ds.eraseIdx k) := by
  induction xs generalizing ds with
  | nil => intro k; cases h; simp; exact .nil
  | cons v vs ih =>
    cases h with
    | cons b bs =>
      intro k
      cases k with
      | zero => exact bs
      | succ k => exact .cons b (ih bs k)
theorem flat_erase (h : flatAll ds = true) (k : Nat) : flatAll (ds.eraseIdx k) = true := flatAll_mem fun d hd => flatAll_one h (List.mem_of_mem_eraseIdx hd)
/-- xs.append(ys.pop(i)) -/
theorem s_popApp {n m : Nat} {Q : Int → Prop} (hx : Γ[n]? = some (some (.o (.list es)))) (hy : Γ[m]? = some (some (.o (.list ds)))) (hnm : n ≠ m) (hes : flatAll es = true) (hds : flatAll ds = true) (hb : EvN c tb Γ kb (SomeI Q)) (hQ : ∀ i, Q i → 0 ≤ i ∧ i < ds.length) (hl : es.length < 1000000) (hl2 : ds.length < 1000000)
    (p : ∀ i d, Q i → ds[i.toNat]? = some d → P (.nx ((Γ.set m (some (.o (.list (ds.eraseIdx i.toNat))))).set n (some (.o (.list (es ++ [d]))))))) :
    Sd c (tDrop (tBM c.K "list" rAppend (tVar n) (tCons (tBM c.K "list" rPopAt (tVar m) (tCons tb tNil)) tNil))) Γ P := fun H0 O H σ D e s => by
  obtain ⟨q, xs, f, hq, hp, fa, qf, qO, _⟩ := e.write (es := es) hx
  obtain ⟨r, ys, f2, hr, hrp, fa2, rf, rO, _⟩ := e.write (es := ds) hy
  refine ⟨.ref q, hq, .inl ⟨rfl, xs, .inl (.inl hp)⟩, .ref r, hr, .inl ⟨rfl, ys, .inl (.inl hrp)⟩, hb H0 O H σ e _ fun v d H2 hd r2 rs => ?_⟩
  obtain ⟨i, rfl, qi⟩ := hd
  have := (Res.bo e rs).int'
  subst this
  obtain ⟨i0, i1⟩ := hQ i qi
  have e2 := e.on r2
  obtain ⟨r', ys', f2', hr', hrp', fa2', rf', rO', wr2⟩ := e2.write (es := ds.eraseIdx i.toNat) hy
  have : r' = r := by rw [hr] at hr'; cases hr'; rfl
  subst this
  obtain ⟨ef, al⟩ := fa2'.flat0 hds
  have hk : i.toNat < ds.length := by omega
  obtain ⟨y, hy1, by1⟩ := al.gets (List.getElem?_eq_getElem hk)
  have yl := al.len
  refine ⟨r', ys', i, i.toNat, y, rfl, rfl, hrp', by omega, by omega, ?_, hy1, ?_⟩
  · unfold seqIndex?
    have h1 : ¬ i < 0 := by omega
    simp [h1, i0]
    omega
  have upt : ∀ zs : List V, ∀ a xs, TpN c.K H2 a xs → TpN c.K (upd H2 r' (.lst zs)) a xs := fun zs _ _ s => sqT_upd hrp' s
  have e3 := wr2 (ys'.eraseIdx i.toNat) (by
    rw [ef]
    refine FoAll.up (upt _) (fun a ha => nomatch ha) (FoAll.leaves (flat_erase hds _) (bo_erase al _)))
  have hx3 : (Γ.set m (some (.o (.list (ds.eraseIdx i.toNat)))))[n]? = some (some (.o (.list es))) := by rw [List.getElem?_set_ne (fun z => hnm z.symm)]; exact hx
  obtain ⟨q', xs', f', hq', hp', fa', qf', qO', wr⟩ := e3.write (es := es ++ [ds[i.toNat]]) hx3
  have : q' = q := by rw [hq] at hq'; cases hq'; rfl
  subst this
  have fy : flatD ds[i.toNat] = true := flatAll_one hds (List.getElem_mem hk)
  obtain ⟨ef', al'⟩ := fa'.flat0 hes
  have lx := al'.len
  refine ⟨q', xs', y, rfl, rfl, hp', by rw [lx, sizeLine_eq]; omega, s _ (p i ds[i.toNat] qi (List.getElem?_eq_getElem hk)) O _ σ (wr (xs' ++ [y]) ?_)⟩
  have b3 : Bo c (upd H2 r' (.lst (ys'.eraseIdx i.toNat))) y ds[i.toNat] := by1.flatTo (upt _) fy
  have := fa'.app (.cons (.leaf fy b3) .nil : FoAll c _ [y] [ds[i.toNat]] ([] ++ []))
  rw [List.append_nil, List.append_nil] at this
  exact this.up (fun _ _ s => sqT_upd hp' s) fun a ha o z => by
    have : a ≠ q' := fun w => qf' (w ▸ ha)
    rw [upd_ne this]; exact z
end
theorem ord_of_perm {acc : List Int} {m : Int} (h0 : 0 ≤ m) (hp : acc.Perm (upI 0 m.toNat)) : IsOrd acc m := by
  have hl := hp.length_eq
  refine ⟨by simp [upI] at hl; omega, hp.nodup_iff.mpr (nodup_upI _), fun n hn => ?_⟩
  have := mem_upI.mp (hp.mem_iff.mp hn)
  omega
def sp__law_orderL (K : PySem.W.Frag) : Sp := spS K fun ds k P => ∃ m : Int, ds = [.int m] ∧ 0 ≤ m ∧ m ≤ 1000 ∧ k = .o ∧ P = fun d => ∃ ns : List Int, d = .list (ns.map .int) ∧ IsOrd ns m
def sp__law_renamedL (K : PySem.W.Frag) : Sp := spD K fun ds k d => ∃ (f os nm : List Int) (v : Int), ds = [.tuple (f.map .int), .list (os.map .int), .list (nm.map .int)] ∧ Asg f v ∧ IsOrd os f.length ∧ IsOrd nm v ∧ k = .v ∧ d = .tuple ((rnI f os nm).map .int)
end Lm

/-! what lies between; all allocations; bridges -/
namespace Lm
open PySem PySem.Spec PyProof.Rows L2
variable {v b : Int} {f g h m x y : List Int}
theorem med_cons {a b c : Int} {as bs cs : List Int} : medI (a :: as) (b :: bs) (c :: cs) = mid3 a b c :: medI as bs cs := by
  unfold medI
  rw [List.length_cons, List.range_succ_eq_map, List.map_cons, List.map_map]
  rfl
theorem t0_tri (a b c : Int) : t0 a c ≤ t0 a b + t0 b c := by unfold t0; (repeat' split) <;> omega
theorem btw_med : ∀ {f g h m : List Int}, f.length = g.length → f.length = h.length → f.length = m.length →
    ((zs t0 f m + zs t0 m g = zs t0 f g ∧ zs t0 f m + zs t0 m h = zs t0 f h ∧ zs t0 g m + zs t0 m h = zs t0 g h) ↔ m = medI f g h)
  | [], [], [], [], _, _, _ => by simp [zs, medI]
  | a :: f, b :: g, c :: h, x :: m, l1, l2, l3 => by
    have k1 : f.length = g.length := by simpa using l1
    have k2 : f.length = h.length := by simpa using l2
    have k3 : f.length = m.length := by simpa using l3
    have ih := btw_med k1 k2 k3
    have i1 := zs_tri (as := f) (bs := m) (cs := g) k3 (by omega)
    have i2 := zs_tri (as := f) (bs := m) (cs := h) k3 (by omega)
    have i3 := zs_tri (as := g) (bs := m) (cs := h) (by omega) (by omega)
    have j1 := t0_tri a x b
    have j2 := t0_tri a x c
    have j3 := t0_tri b x c
    rw [med_cons, List.cons.injEq, ← ih]
    simp only [zs_cons]
    have key : (t0 a x + t0 x b = t0 a b ∧ t0 a x + t0 x c = t0 a c ∧ t0 b x + t0 x c = t0 b c) ↔ x = mid3 a b c := by
      unfold t0 mid3
      constructor
      · intro h
        (repeat' split at h) <;> (repeat' split) <;> omega
      · intro h
        (repeat' split at h) <;> (repeat' split) <;> omega
    rw [← key]
    constructor
    · rintro ⟨h1, h2, h3⟩
      exact ⟨⟨by omega, by omega, by omega⟩, by omega, by omega, by omega⟩
    · rintro ⟨⟨h1, h2, h3⟩, h4, h5, h6⟩
      exact ⟨by omega, by omega, by omega⟩
  | [], _ :: _, _, _, h, _, _ => by simp at h
  | _ :: _, [], _, _, h, _, _ => by simp at h
  | [], _, _ :: _, _, _, h, _ => by simp at h
  | _ :: _, _, [], _, _, h, _ => by simp at h
  | [], _, _, _ :: _, _, _, h => by simp at h
  | _ :: _, _, _, [], _, _, h => by simp at h
/-! all allocations -/
def alcL (b : Int) : Nat → List (List Int)
  | 0 => [[]]
  | n + 1 => (alcL b n).flatMap fun r => (upI 0 (b - r.sum + 1).toNat).map fun x => r ++ [x]
theorem mem_alcL (hb : 0 ≤ b) : ∀ (n : Nat) (r : List Int), r ∈ alcL b n ↔ r.length = n ∧ (∀ x ∈ r, 0 ≤ x) ∧ r.sum ≤ b
  | 0, r => by
    constructor
    · intro h
      have : r = [] := by simpa [alcL] using h
      subst this
      exact ⟨rfl, fun _ h => (nomatch h), by simpa using hb⟩
    · rintro ⟨h, _⟩
      rw [List.eq_nil_of_length_eq_zero h]
      simp [alcL]
  | n + 1, r => by
    unfold alcL
    rw [List.mem_flatMap]
    constructor
    · rintro ⟨q, hq, h⟩
      obtain ⟨x, hx, rfl⟩ := List.mem_map.mp h
      obtain ⟨h1, h2, h3⟩ := (mem_alcL hb n q).mp hq
      have rx := mem_upI.mp hx
      refine ⟨by simp [h1], fun y hy => ?_, ?_⟩
      · rcases List.mem_append.mp hy with w | w
        · exact h2 y w
        · rw [List.mem_singleton.mp w]; exact rx.1
      · rw [List.sum_append]
        simp
        omega
    · rintro ⟨h1, h2, h3⟩
      have hne : r ≠ [] := fun z => by rw [z] at h1; simp at h1
      have e := List.dropLast_concat_getLast hne
      have s : r.dropLast.sum + r.getLast hne = r.sum := by
        have := congrArg List.sum e
        rw [List.sum_append] at this
        simpa using this
      have g0 := h2 _ (List.getLast_mem hne)
      have dn : ∀ x ∈ r.dropLast, 0 ≤ x := fun x hx => h2 x (List.dropLast_subset r hx)
      refine ⟨r.dropLast, (mem_alcL hb n _).mpr ⟨by rw [List.length_dropLast]; omega, dn, by omega⟩, List.mem_map.mpr ⟨r.getLast hne, mem_upI.mpr ?_, e⟩⟩
      omega
theorem alcL_pw (b : Int) : ∀ n, (alcL b n).Pairwise lexLt
  | 0 => List.pairwise_singleton ..
  | n + 1 => by
    unfold alcL
    rw [List.pairwise_flatMap]
    refine ⟨fun r _ => ?_, (alcL_pw b n).imp fun {a b} h x hx y hy => ?_⟩
    · rw [List.pairwise_map]
      exact (upI_pw _).imp fun h => lexLt_last h
    · obtain ⟨i, _, rfl⟩ := List.mem_map.mp hx
      obtain ⟨j, _, rfl⟩ := List.mem_map.mp hy
      exact lexLt_app h
theorem len_flatMap_le {α β : Type} {f : α → List β} {k : Nat} : ∀ {l : List α}, (∀ a ∈ l, (f a).length ≤ k) → (l.flatMap f).length ≤ l.length * k
  | [], _ => by simp
  | a :: l, h => by
    have h1 := h a (by simp)
    have h2 := len_flatMap_le (l := l) fun b hb => h b (by simp [hb])
    rw [List.flatMap_cons, List.length_append, List.length_cons, Nat.add_mul]
    omega
theorem alcL_len (hb : 0 ≤ b) : ∀ n, (alcL b n).length ≤ (b + 1).toNat ^ n
  | 0 => by simp [alcL]
  | n + 1 => by
    have ih := alcL_len hb n
    have := len_flatMap_le (l := alcL b n) (f := fun r => (upI 0 (b - r.sum + 1).toNat).map fun x => r ++ [x]) (k := (b + 1).toNat) fun r hr => by
      have h := (mem_alcL hb n r).mp hr
      have := sum_nn h.2.1
      simp [upI]
      omega
    rw [Nat.pow_succ]
    exact Nat.le_trans this (Nat.mul_le_mul_right _ ih)
theorem alcL_small {n : Nat} (hb : 0 ≤ b) (h5 : b ≤ 6) (hn : n ≤ 5) : (alcL b n).length ≤ 16807 := by
  refine Nat.le_trans (alcL_len hb n) ?_
  exact Nat.le_trans (Nat.pow_le_pow_left (by omega : (b + 1).toNat ≤ 7) n) (Nat.pow_le_pow_right (by decide) hn)
def alcF (b : Int) (n : Nat) : List (List Int) := (alcL b n).filter fun r => decide (r.sum = b)
theorem mem_alcF (hb : 0 ≤ b) (hv : 0 ≤ v) {r : List Int} : r ∈ alcF b v.toNat ↔ Alc r v b := by
  unfold alcF
  rw [List.mem_filter, mem_alcL hb, decide_eq_true_iff]
  constructor
  · rintro ⟨⟨h1, h2, h3⟩, h4⟩
    exact ⟨by omega, h4, h2⟩
  · intro h
    exact ⟨⟨by have := h.len; omega, h.nn, by rw [h.sum]; exact Int.le_refl _⟩, h.sum⟩
theorem pw_nodup {l : List (List Int)} (h : l.Pairwise lexLt) : l.Nodup := by
  refine List.Pairwise.imp (fun {a b} h => ?_) h
  intro e
  rw [e] at h
  exact lexLt_irr h
theorem filter_is {a : List Int} : ∀ {l : List (List Int)}, l.Nodup → l.filter (fun r => decide (r = a)) = if a ∈ l then [a] else []
  | [], _ => rfl
  | x :: l, h => by
    obtain ⟨hx, hn⟩ := List.nodup_cons.mp h
    rw [List.filter_cons, filter_is hn]
    by_cases w : x = a
    · subst w
      simp [hx]
    · have w' : ¬ a = x := fun z => w z.symm
      simp [w, w']
/-- m lies between x and y -/
def btwB (m x y : List Int) : Bool := decide (trI x m + trI m y = trI x y)
def sp_lies_between (K : PySem.W.Frag) : Sp := spD K fun ds k d => ∃ (m x y : List Int) (v b : Int), ds = [.tuple (m.map .int), .tuple (x.map .int), .tuple (y.map .int)] ∧ Alc m v b ∧ Alc x v b ∧ Alc y v b ∧ 1 ≤ v ∧ v ≤ 5 ∧ b ≤ 20 ∧ k = .v ∧ d = .bool (btwB m x y)
def sp__law_between (K : PySem.W.Frag) : Sp := spD K fun ds k d => ∃ (m x y : List Int), ds = [.tuple (m.map .int), .tuple (x.map .int), .tuple (y.map .int)] ∧ x.length = m.length ∧ x.length = y.length ∧ x.length ≤ 1000 ∧ k = .v ∧ d = .bool (btwB m x y)
def brD (f g h : List Int) : PyData := if suI f g h = 0 then .tuple ((medI f g h).map .int) else .none
def sp_bridge (K : PySem.W.Frag) : Sp := spD K fun ds k d => ∃ (as bs cs : List Int) (v b : Int), ds = [.tuple (as.map .int), .tuple (bs.map .int), .tuple (cs.map .int)] ∧ Alc as v b ∧ Alc bs v b ∧ Alc cs v b ∧ 1 ≤ v ∧ v ≤ 5 ∧ b ≤ 20 ∧ k = .v ∧ d = brD as bs cs
def sp__law_allocations (K : PySem.W.Frag) : Sp := spD K fun ds k d => ∃ v b : Int, ds = [.int v, .int b] ∧ 1 ≤ v ∧ v ≤ 5 ∧ 0 ≤ b ∧ b ≤ 6 ∧ k = .o ∧ d = .list ((alcF b v.toNat).map tupD)
/-- of all allocations, those that lie between each two of three -/
theorem between_are (hf : Alc f v b) (hg : Alc g v b) (hh : Alc h v b) (hv : 0 ≤ v) (hb : 0 ≤ b) :
    (alcF b v.toNat).filter (fun m => btwB m f g && (btwB m f h && btwB m g h)) = if (medI f g h).sum = b then [medI f g h] else [] := by
  have e : (alcF b v.toNat).filter (fun m => btwB m f g && (btwB m f h && btwB m g h)) = (alcF b v.toNat).filter fun m => decide (m = medI f g h) := by
    apply List.filter_congr
    intro m hm
    have ha := (mem_alcF hb hv).mp hm
    have l1 := hf.lens hg
    have l2 := hf.lens hh
    have l3 := hf.lens ha
    rw [Bool.eq_iff_iff]
    simp only [Bool.and_eq_true, btwB, decide_eq_true_eq]
    rw [← btw_med l1 l2 l3, trI_zs l3, trI_zs (l3.symm.trans l1), trI_zs l1, trI_zs (l3.symm.trans l2), trI_zs l2, trI_zs (l1.symm.trans l3), trI_zs (l1.symm.trans l2)]
  have nd : (alcF b v.toNat).Nodup := (pw_nodup (alcL_pw b _)).filter _
  rw [e, filter_is nd]
  have l1 := hf.lens hg
  have l2 := hf.lens hh
  have fl := hf.len
  have ml : (medI f g h).length = f.length := by simp [medI]
  have nn : ∀ n ∈ medI f g h, 0 ≤ n := fun n hn => by
    obtain ⟨i, hi, rfl⟩ := List.mem_map.mp hn
    have hi' := List.mem_range.mp hi
    have a1 := hf.nn _ (gd_mem (j := i) hi')
    have a2 := hg.nn _ (gd_mem (j := i) (by omega))
    have a3 := hh.nn _ (gd_mem (j := i) (by omega))
    unfold mid3
    (repeat' split) <;> omega
  by_cases w : (medI f g h).sum = b
  · rw [if_pos w, if_pos ((mem_alcF hb hv).mpr ⟨by omega, w, nn⟩)]
  · rw [if_neg w, if_neg (fun z => w ((mem_alcF hb hv).mp z).sum)]
theorem shapedR (l : List (List Int)) : SeqAt.shaped (.list (l.map tupD)) = true := by
  have h1 : ∀ l : List (List Int), PyData.canLayAll0 (l.map tupD) = true := fun l => by
    induction l with
    | nil => rfl
    | cons a l ih => simp [PyData.canLayAll0, PyData.canLay0, PySem.W.ke_canLayAll0] at ih ⊢; exact ih
  have h2 : ∀ l : List (List Int), PyData.depthAll (l.map tupD) ≤ 1 := fun l => by
    induction l with
    | nil => simp [PyData.depthAll]
    | cons a l ih =>
      have : PyData.depth (tupD a) ≤ 1 := by simp [PyData.depth, PySem.W.ke_depthAll]
      simp only [List.map_cons, PyData.depthAll]
      omega
  show (PyData.canLay0 (.list (l.map tupD)) && decide (PyData.depth (.list (l.map tupD)) ≤ 64)) = true
  rw [Bool.and_eq_true]
  refine ⟨by simp only [PyData.canLay0]; exact h1 l, decide_eq_true ?_⟩
  have := h2 l
  simp only [PyData.depth]
  omega
theorem eqvR : ∀ l : List (List Int), PyData.eqv (.list (l.map tupD)) (.list (l.map tupD)) = true
  | [] => by simp [PyData.eqv, PyData.eqvAll]
  | a :: l => by
    have ih := eqvR l
    simp only [PyData.eqv, List.map_cons, PyData.eqvAll] at ih ⊢
    rw [ih]
    have := eqvT a a
    simp only [PyData.eqv] at this
    rw [this]
    simp
end Lm

/-! all ways on from a state, in order, and their number -/
namespace Lm
open PySem PySem.Spec PyProof.Rows L2
theorem sum_filterN {α : Type} (p : α → Bool) (φ : α → Nat) : ∀ l : List α, ((l.filter p).map φ).sum = (l.map fun a => if p a = true then φ a else 0).sum
  | [] => rfl
  | a :: l => by
    have ih := sum_filterN p φ l
    rw [List.filter_cons]
    by_cases h : p a = true
    · rw [if_pos h, List.map_cons, List.sum_cons, List.map_cons, List.sum_cons, if_pos h, ih]
    · rw [if_neg h, List.map_cons, List.sum_cons, if_neg h, ih, Nat.zero_add]
theorem sum_addN (a b : Nat → Nat) : ∀ l : List Nat, (l.map fun j => a j + b j).sum = (l.map a).sum + (l.map b).sum
  | [] => rfl
  | x :: l => by
    simp only [List.map_cons, List.sum_cons]
    rw [sum_addN a b l]
    omega
theorem sum_mulN (a : Nat → Nat) (p : Nat) : ∀ l : List Nat, (l.map fun j => a j * p).sum = (l.map a).sum * p
  | [] => by simp
  | x :: l => by
    simp only [List.map_cons, List.sum_cons]
    rw [sum_mulN a p l, Nat.add_mul]
theorem sum_indN (o x : Nat) : ∀ v, o < v → ((List.range v).map fun j => if j = o then x else 0).sum = x
  | v + 1, h => by
    rw [List.range_succ, List.map_append, List.sum_append]
    by_cases q : v = o
    · subst q
      have : ((List.range v).map fun j => if j = v then x else 0) = (List.range v).map fun _ => 0 := List.map_congr_left fun j hj => by
        have := List.mem_range.mp hj
        rw [if_neg (by omega)]
      rw [this]
      have z : ∀ n : Nat, ((List.range n).map fun _ => 0).sum = 0 := fun n => by
        generalize List.range n = l
        induction l with
        | nil => rfl
        | cons a l ih => simpa using ih
      rw [z]
      simp
    · rw [sum_indN o x v (by omega)]
      simp [q]
theorem prod_one (F : Nat → Nat) (o : Nat) : ∀ v, o < v → ∃ R, ∀ G : Nat → Nat, (∀ j, j < v → j ≠ o → G j = F j) → prodN ((List.range v).map G) = G o * R
  | v + 1, h => by
    by_cases q : o = v
    · subst q
      refine ⟨prodN ((List.range o).map F), fun G hG => ?_⟩
      rw [List.range_succ, List.map_append, prodN_app]
      have : (List.range o).map G = (List.range o).map F := List.map_congr_left fun j hj => by
        have := List.mem_range.mp hj
        exact hG j (by omega) (by omega)
      rw [this]
      simp [prodN, Nat.mul_comm]
    · obtain ⟨R, hR⟩ := prod_one F o v (by omega)
      refine ⟨R * F v, fun G hG => ?_⟩
      rw [List.range_succ, List.map_append, prodN_app, hR G fun j hj hne => hG j (by omega) hne]
      have : G v = F v := hG v (by omega) fun z => q z.symm
      simp [prodN, this, Nat.mul_assoc]
variable {v o n : Int} {S : S3} {f g : List Int}
def waysS (S : S3) : Nat := waysN S.c S.l S.e
theorem nAt_lss (o : Int) (l : List Int) (j : Nat) : nAt (lssI o l) j = if j = o.toNat then nAt l j - 1 else nAt l j := by
  unfold nAt lssI gI
  rw [List.getD_eq_getElem?_getD, List.getElem?_set]
  by_cases q : o.toNat = j
  · subst q
    rw [if_pos rfl, if_pos rfl]
    by_cases h : o.toNat < l.length
    · rw [if_pos h]
      show (l.getD o.toNat 0 - 1).toNat = _
      omega
    · rw [if_neg h, List.getD_eq_getElem?_getD, List.getElem?_eq_none (by omega)]
      rfl
  · rw [if_neg q, if_neg (fun z => q z.symm), List.getD_eq_getElem?_getD]
theorem map_nAt (l : List Int) : l.map Int.toNat = (List.range l.length).map (nAt l) := by
  apply List.ext_getElem
  · simp
  · intro i h1 h2
    have : i < l.length := by simpa using h1
    simp only [List.getElem_map, List.getElem_range]
    unfold nAt
    rw [gd_lt this]
theorem ways_rows {cs ls es : List Int} {m : Nat} (h1 : cs.length = m) (h2 : ls.length = m) (h3 : es.length = m) (hn : ∀ n ∈ es, 0 ≤ n) :
    waysN cs ls es = prodN ((List.range m).map fun j => cho (nAt cs j) (nAt ls j)) * mul2 ((List.range m).map (nAt es)).sum ((List.range m).map (nAt es)) := by
  unfold waysN
  have e1 : (cs.zip ls).map (fun p => cho p.1.toNat p.2.toNat) = (List.range m).map fun j => cho (nAt cs j) (nAt ls j) := by
    apply List.ext_getElem
    · simp; omega
    · intro i a1 a2
      have i1 : i < cs.length := by simp at a1; omega
      have i2 : i < ls.length := by simp at a1; omega
      simp only [List.getElem_map, List.getElem_range, List.getElem_zip]
      unfold nAt
      rw [gd_lt i1, gd_lt i2]
  rw [e1, ← sum_toNat hn, map_nAt es, h3]
theorem mul2_all (E : Nat → Nat) (m : Nat) : mul2 ((List.range m).map E).sum ((List.range m).map E) * prodN ((List.range m).map fun j => fac (E j)) = fac ((List.range m).map E).sum := by
  have := mul2_fac ((List.range m).map E) _ (Nat.le_refl _)
  rw [Nat.sub_self, List.map_map] at this
  have e : ∀ x : Nat, x * fac 0 = x := fun x => Nat.mul_one x
  rw [e] at this
  exact this
/-- the number of ways is the total of those behind each choice -/
theorem ways_split (h : St v S (o :: f)) : waysS S = ((optI S o).map fun n => waysS (aftI S o n)).sum := by
  have ho := h.rng o (by simp)
  have cl := h.cl
  have ll := h.ll
  have el := h.el
  obtain ⟨m, rfl⟩ := Int.eq_ofNat_of_zero_le (show 0 ≤ v by omega)
  obtain ⟨o, rfl⟩ := Int.eq_ofNat_of_zero_le ho.1
  have hm : o < m := by omega
  have c1 : nAt S.c o = (((o : Int) :: f).count (o : Int) : Nat) := by
    have := h.cs (o : Int) ho
    unfold gI at this
    unfold nAt
    rw [Int.toNat_natCast] at this
    omega
  have c2 : 0 < nAt S.c o := by rw [c1]; simp
  have lc : nAt S.l o ≤ nAt S.c o := by
    have := (h.ls (o : Int) ho).2
    unfold gI at this
    rw [Int.toNat_natCast] at this
    unfold nAt at c1 ⊢
    omega
  have gl : gI S.l (o : Int) = (nAt S.l o : Int) := by
    have := (h.ls (o : Int) ho).1
    unfold gI at this ⊢
    rw [Int.toNat_natCast] at this ⊢
    unfold nAt
    omega
  have gc : gI S.c (o : Int) = (nAt S.c o : Int) := by
    have := h.cs (o : Int) ho
    rw [this, c1]
  have ge : ∀ j : Nat, j < m → gI S.e (j : Int) = (nAt S.e j : Int) := fun j hj => by
    have := (h.es (j : Int) (by omega)).1
    unfold gI at this ⊢
    rw [Int.toNat_natCast] at this ⊢
    unfold nAt
    omega
  obtain ⟨R, hR⟩ := prod_one (fun j => cho (nAt S.c j) (nAt S.l j)) o m hm
  have en := h.enn
  have nl : ∀ l : List Int, (lssI (o : Int) l).length = l.length := fun l => dec_len
  have M0 := ways_rows (cs := S.c) (ls := S.l) (es := S.e) (m := m) (by omega) (by omega) (by omega) en
  rw [hR (fun j => cho (nAt S.c j) (nAt S.l j)) fun _ _ _ => rfl] at M0
  -- to keep
  have keep : waysS (aftI S o o) = cho (nAt S.c o - 1) (nAt S.l o) * R * mul2 ((List.range m).map (nAt S.e)).sum ((List.range m).map (nAt S.e)) := by
    unfold aftI
    rw [if_pos rfl]
    show waysN (lssI o S.c) S.l S.e = _
    rw [ways_rows (m := m) (by rw [dec_len]; omega) (by omega) (by omega) en, hR (fun j => cho (nAt (lssI o S.c) j) (nAt S.l j)) fun j hj hne => by rw [nAt_lss, Int.toNat_natCast, if_neg hne]]
    rw [nAt_lss, Int.toNat_natCast, if_pos rfl]
  unfold waysS at *
  rw [M0]
  by_cases q : nAt S.l o = 0
  · have : optI S o = [(o : Int)] := by
      unfold optI
      rw [if_pos (by rw [gl, q]; rfl)]
    rw [this]
    have e0 : ∀ k, cho k 0 = 1 := fun k => by cases k <;> rfl
    simp only [List.map_cons, List.map_nil, List.sum_cons, List.sum_nil, Nat.add_zero]
    rw [keep, q, e0, e0]
  · obtain ⟨l, el1⟩ : ∃ l, nAt S.l o = l + 1 := ⟨nAt S.l o - 1, by omega⟩
    obtain ⟨c, ec1⟩ : ∃ c, nAt S.c o = c + 1 := ⟨nAt S.c o - 1, by omega⟩
    have eo : nAt S.e o = 0 := by
      have := (h.es (o : Int) ho).2
      rw [gl, ge o hm] at this
      omega
    rw [el1, ec1, Nat.add_sub_cancel] at keep
    rw [el1, ec1]
    -- what is shared out
    have PT := mul2_all (nAt S.e) m
    have Tp : 0 < ((List.range m).map (nAt S.e)).sum := by
      have s1 := h.sum
      have s2 := getD_le_sum (l := S.l) (k := o) h.lnn
      unfold gI at gl
      rw [Int.toNat_natCast] at gl
      have s3 := sum_toNat en
      rw [map_nAt, show S.e.length = m by omega] at s3
      omega
    obtain ⟨T, hT⟩ : ∃ T, ((List.range m).map (nAt S.e)).sum = T + 1 := ⟨((List.range m).map (nAt S.e)).sum - 1, by omega⟩
    rw [hT] at PT keep ⊢
    obtain ⟨P, hP⟩ : ∃ P, P = prodN ((List.range m).map fun j => fac (nAt S.e j)) := ⟨_, rfl⟩
    have Pp : 0 < P := by
      rw [hP]
      exact prodN_pos fun a ha => by
        obtain ⟨j, _, rfl⟩ := List.mem_map.mp ha
        exact fac_pos _
    rw [← hP] at PT
    -- to leave for n
    have leave : ∀ n : Nat, n < m → n ≠ o → 0 < nAt S.e n → ∃ Mn, waysN (aftI S o n).c (aftI S o n).l (aftI S o n).e = cho c l * R * Mn ∧ Mn * P = nAt S.e n * fac T := fun n hn hne hp => by
      have hne' : ¬ (n : Int) = (o : Int) := by omega
      have E' : (List.range m).map (nAt (lssI (n : Int) S.e)) = (List.range m).map fun j => if j = n then nAt S.e j - 1 else nAt S.e j := List.map_congr_left fun j _ => by rw [nAt_lss, Int.toNat_natCast]
      have sE : ((List.range m).map fun j => if j = n then nAt S.e j - 1 else nAt S.e j).sum + 1 = T + 1 := by
        have h1 := sum_indN n 1 m hn
        have h2 := sum_addN (fun j => if j = n then nAt S.e j - 1 else nAt S.e j) (fun j => if j = n then 1 else 0) (List.range m)
        have h3 : ((List.range m).map fun j => (if j = n then nAt S.e j - 1 else nAt S.e j) + if j = n then 1 else 0) = (List.range m).map (nAt S.e) := List.map_congr_left fun j _ => by
          by_cases w : j = n
          · subst w; rw [if_pos rfl, if_pos rfl]; omega
          · rw [if_neg w, if_neg w, Nat.add_zero]
        rw [h3, h1, hT] at h2
        omega
      refine ⟨mul2 T ((List.range m).map fun j => if j = n then nAt S.e j - 1 else nAt S.e j), ?_, ?_⟩
      · unfold aftI
        rw [if_neg hne']
        show waysN (lssI o S.c) (lssI o S.l) (lssI n S.e) = _
        have en' : ∀ x ∈ lssI (n : Int) S.e, 0 ≤ x := fun x hx => by
          unfold lssI at hx
          rcases List.mem_or_eq_of_mem_set hx with w | w
          · exact en x w
          · rw [w, ge n hn]; omega
        rw [ways_rows (m := m) (by rw [dec_len]; omega) (by rw [dec_len]; omega) (by rw [dec_len]; omega) en', hR (fun j => cho (nAt (lssI o S.c) j) (nAt (lssI o S.l) j)) fun j hj hjo => by rw [nAt_lss, nAt_lss, Int.toNat_natCast, if_neg hjo, if_neg hjo], E', nAt_lss, nAt_lss, Int.toNat_natCast, if_pos rfl, if_pos rfl, el1, ec1, Nat.add_sub_cancel, Nat.add_sub_cancel]
        have : ((List.range m).map fun j => if j = n then nAt S.e j - 1 else nAt S.e j).sum = T := by omega
        rw [this]
      · have A := mul2_all (fun j => if j = n then nAt S.e j - 1 else nAt S.e j) m
        have : ((List.range m).map fun j => if j = n then nAt S.e j - 1 else nAt S.e j).sum = T := by omega
        rw [this] at A
        obtain ⟨Q, hQ⟩ := prod_one (fun j => fac (nAt S.e j)) n m hn
        have p1 := hQ (fun j => fac (nAt S.e j)) fun _ _ _ => rfl
        have p2 := hQ (fun j => fac (if j = n then nAt S.e j - 1 else nAt S.e j)) fun j _ hj => by rw [if_neg hj]
        rw [if_pos rfl] at p2
        rw [hP, p1]
        rw [p2] at A
        obtain ⟨x, hx⟩ : ∃ x, nAt S.e n = x + 1 := ⟨nAt S.e n - 1, by omega⟩
        rw [hx] at A ⊢
        rw [Nat.add_sub_cancel] at A
        rw [← A]
        show _ * ((x + 1) * fac x * Q) = (x + 1) * (_ * (fac x * Q))
        simp only [Nat.mul_assoc, Nat.mul_comm, Nat.mul_left_comm]
    -- the total
    let Mf : Nat → Nat := fun n => if hn : n < m ∧ n ≠ o ∧ 0 < nAt S.e n then (leave n hn.1 hn.2.1 hn.2.2).choose else 0
    have Mf1 : ∀ n, n < m → n ≠ o → 0 < nAt S.e n → waysN (aftI S o n).c (aftI S o n).l (aftI S o n).e = cho c l * R * Mf n := fun n h1 h2 h3 => by
      have := (leave n h1 h2 h3).choose_spec.1
      show _ = _ * (if hn : _ then _ else 0)
      rw [dif_pos ⟨h1, h2, h3⟩]
      exact this
    have Mf2 : ∀ n, n < m → Mf n * P = nAt S.e n * fac T := fun n h1 => by
      by_cases w : n ≠ o ∧ 0 < nAt S.e n
      · have := (leave n h1 w.1 w.2).choose_spec.2
        show (if hn : _ then _ else 0) * P = _
        rw [dif_pos ⟨h1, w⟩]
        exact this
      · show (if hn : _ then _ else 0) * P = _
        rw [dif_neg (fun z => w z.2)]
        by_cases w2 : n = o
        · rw [w2, eo]; simp
        · have : nAt S.e n = 0 := by
            have : ¬ 0 < nAt S.e n := fun z => w ⟨w2, z⟩
            omega
          rw [this]; simp
    have SM : ((List.range m).map Mf).sum = mul2 (T + 1) ((List.range m).map (nAt S.e)) := by
      refine Nat.eq_of_mul_eq_mul_right Pp ?_
      rw [PT, ← sum_mulN]
      have : ((List.range m).map fun j => Mf j * P) = (List.range m).map fun j => nAt S.e j * fac T := List.map_congr_left fun j hj => Mf2 j (List.mem_range.mp hj)
      rw [this, sum_mulN, hT]
      rfl
    have op : optI S o = (upI 0 m).filter fun i => decide (0 < gI S.e i) || (decide (i = (o : Int)) && decide (gI S.l o < gI S.c o)) := by
      unfold optI
      rw [if_neg (by rw [gl, el1]; omega), show S.e.length = m by omega]
    rw [op, sum_filterN]
    have up : upI 0 m = (List.range m).map fun (j : Nat) => (j : Int) := by
      unfold upI
      exact List.map_congr_left fun j _ => by omega
    rw [up, List.map_map]
    have pt : ((List.range m).map ((fun a => if (decide (0 < gI S.e a) || (decide (a = (o : Int)) && decide (gI S.l o < gI S.c o))) = true then waysN (aftI S o a).c (aftI S o a).l (aftI S o a).e else 0) ∘ fun (j : Nat) => (j : Int))) = (List.range m).map fun j => cho c l * R * Mf j + if j = o then cho c (l + 1) * R * mul2 (T + 1) ((List.range m).map (nAt S.e)) else 0 := List.map_congr_left fun j hj => by
      have hj' := List.mem_range.mp hj
      simp only [Function.comp_def]
      rw [ge j hj', gl, gc, el1, ec1]
      by_cases w : j = o
      · subst w
        have z : Mf j = 0 := by
          show (if hn : _ then _ else 0) = 0
          rw [dif_neg (fun z => z.2.1 rfl)]
        rw [if_pos rfl, z, eo]
        by_cases w2 : l + 1 < c + 1
        · have : (decide ((0 : Int) < ((0 : Nat) : Int)) || (decide ((j : Int) = (j : Int)) && decide (((l + 1 : Nat) : Int) < ((c + 1 : Nat) : Int)))) = true := by simp; omega
          rw [if_pos this, keep]
          omega
        · have : ¬ (decide ((0 : Int) < ((0 : Nat) : Int)) || (decide ((j : Int) = (j : Int)) && decide (((l + 1 : Nat) : Int) < ((c + 1 : Nat) : Int)))) = true := by simp; omega
          rw [if_neg this, cho_above (by omega : c < l + 1)]
          simp
      · have w' : ¬ (j : Int) = (o : Int) := by omega
        rw [if_neg w]
        by_cases w2 : 0 < nAt S.e j
        · have : (decide ((0 : Int) < (nAt S.e j : Int)) || (decide ((j : Int) = (o : Int)) && decide (((l + 1 : Nat) : Int) < ((c + 1 : Nat) : Int)))) = true := by simp; omega
          rw [if_pos this, Mf1 j hj' w w2, Nat.add_zero]
        · have : ¬ (decide ((0 : Int) < (nAt S.e j : Int)) || (decide ((j : Int) = (o : Int)) && decide (((l + 1 : Nat) : Int) < ((c + 1 : Nat) : Int)))) = true := by simp [w']; omega
          have z : Mf j = 0 := by
            show (if hn : _ then _ else 0) = 0
            rw [dif_neg (fun z => w2 z.2.2)]
          rw [if_neg this, z]
          simp
    rw [pt, sum_addN, sum_indN _ _ _ hm]
    have e6 : ((List.range m).map fun j => cho c l * R * Mf j).sum = cho c l * R * ((List.range m).map Mf).sum := by
      rw [Nat.mul_comm _ ((List.range m).map Mf).sum, ← sum_mulN]
      congr 1
      exact List.map_congr_left fun j _ => Nat.mul_comm ..
    rw [e6, SM]
    show (cho c l + cho c (l + 1)) * R * _ = _
    rw [Nat.add_mul, Nat.add_mul]
end Lm

/-! all ways on: by number, their numbers, the next one -/
namespace Lm
open PySem PySem.Spec PyProof.Rows L2
variable {v o n : Int} {S : S3} {f g : List Int}
def wayL : S3 → List Int → List (List Int)
  | _, [] => [[]]
  | S, o :: f => (optI S o).flatMap fun n => (wayL (aftI S o n) f).map fun r => n :: r
theorem mem_wayL : ∀ {f g : List Int} {S : S3}, St v S f → (g ∈ wayL S f ↔ Fit v S f g)
  | [], g, S, h => by
    constructor
    · intro hg
      have : g = [] := by simpa [wayL] using hg
      rw [this]
      exact fit_nil h
    · intro k
      have := k.len
      rw [List.eq_nil_of_length_eq_zero this]
      simp [wayL]
  | o :: f, g, S, h => by
    unfold wayL
    rw [List.mem_flatMap]
    constructor
    · rintro ⟨n, hn, hg⟩
      obtain ⟨r, hr, rfl⟩ := List.mem_map.mp hg
      exact (fit_cons h).mpr ⟨hn, (mem_wayL (h.after hn)).mp hr⟩
    · intro k
      cases g with
      | nil => have := k.len; simp at this
      | cons n g =>
        obtain ⟨hn, k2⟩ := (fit_cons h).mp k
        exact ⟨n, hn, List.mem_map.mpr ⟨g, (mem_wayL (h.after hn)).mpr k2, rfl⟩⟩
theorem wayL_pw : ∀ (f : List Int) (S : S3), (wayL S f).Pairwise lexLt
  | [], _ => List.pairwise_singleton ..
  | o :: f, S => by
    unfold wayL
    rw [List.pairwise_flatMap]
    refine ⟨fun n _ => ?_, opt_sorted.imp fun {a b} h x hx y hy => ?_⟩
    · rw [List.pairwise_map]
      exact (wayL_pw f _).imp fun h => .inr ⟨rfl, h⟩
    · obtain ⟨r, _, rfl⟩ := List.mem_map.mp hx
      obtain ⟨r', _, rfl⟩ := List.mem_map.mp hy
      exact .inl h
theorem ways_nil (h : St v S []) : waysS S = 1 := by
  have cl := h.cl
  have ll := h.ll
  have el := h.el
  have k := fit_nil h
  have c0 : ∀ j : Nat, (j : Int) < v → nAt S.c j = 0 ∧ nAt S.l j = 0 ∧ nAt S.e j = 0 := fun j hj => by
    have a1 := h.cs (j : Int) (by omega)
    have a2 := k.out (j : Int) (by omega)
    have a3 := k.inn (j : Int) (by omega)
    simp only [List.count_nil] at a1
    have z1 : outI (j : Int) ([].zip []) = 0 := rfl
    have z2 : innI (j : Int) ([].zip []) = 0 := rfl
    rw [z1] at a2
    rw [z2] at a3
    unfold gI at a1 a2 a3
    rw [Int.toNat_natCast] at a1 a2 a3
    unfold nAt
    omega
  unfold waysS
  rw [ways_rows (m := v.toNat) (by omega) (by omega) (by omega) h.enn]
  have e1 : ((List.range v.toNat).map fun j => cho (nAt S.c j) (nAt S.l j)) = (List.range v.toNat).map fun _ => 1 := List.map_congr_left fun j hj => by
    have := List.mem_range.mp hj
    obtain ⟨a, b, _⟩ := c0 j (by omega)
    rw [a, b]; rfl
  have e2 : (List.range v.toNat).map (nAt S.e) = (List.range v.toNat).map fun _ => 0 := List.map_congr_left fun j hj => by
    have := List.mem_range.mp hj
    exact (c0 j (by omega)).2.2
  rw [e1, e2]
  have p1 : ∀ l : List Nat, prodN (l.map fun _ => 1) = 1 := fun l => by
    induction l with
    | nil => rfl
    | cons a l ih => show 1 * _ = 1; rw [ih]
  have m1 : ∀ (l : List Nat) (p : Nat), mul2 p (l.map fun _ => 0) = 1 := fun l => by
    induction l with
    | nil => intro p; rfl
    | cons a l ih =>
      intro p
      have e0 : cho p 0 = 1 := by cases p <;> rfl
      show cho p 0 * mul2 (p - 0) (l.map fun _ => 0) = 1
      rw [e0, ih]
  rw [p1, m1]
theorem wayL_len : ∀ {f : List Int} {S : S3}, St v S f → (wayL S f).length = waysS S
  | [], S, h => by rw [ways_nil h]; rfl
  | o :: f, S, h => by
    rw [ways_split h]
    unfold wayL
    rw [List.length_flatMap]
    congr 1
    apply List.map_congr_left
    intro n hn
    rw [List.length_map, wayL_len (h.after hn)]
/-! by number -/
def pickI (S : S3) (o : Int) : List Int → Nat → Int × Nat
  | [], i => (0, i)
  | n :: ns, i => if i < waysS (aftI S o n) then (n, i) else pickI S o ns (i - waysS (aftI S o n))
def nthL : S3 → List Int → Nat → List Int
  | _, [], _ => []
  | S, o :: f, i => (pickI S o (optI S o) i).1 :: nthL (aftI S o (pickI S o (optI S o) i).1) f (pickI S o (optI S o) i).2
theorem pick_ok : ∀ {ns : List Int} {i : Nat}, i < (ns.map fun n => waysS (aftI S o n)).sum → (pickI S o ns i).1 ∈ ns ∧ (pickI S o ns i).2 < waysS (aftI S o (pickI S o ns i).1)
  | [], i, h => by simp at h
  | n :: ns, i, h => by
    unfold pickI
    by_cases q : i < waysS (aftI S o n)
    · rw [if_pos q]; exact ⟨by simp, q⟩
    · rw [if_neg q]
      simp only [List.map_cons, List.sum_cons] at h
      obtain ⟨h1, h2⟩ := pick_ok (ns := ns) (i := i - waysS (aftI S o n)) (by omega)
      exact ⟨by simp [h1], h2⟩
theorem pick_get {F : Int → List (List Int)} : ∀ {ns : List Int} {i : Nat}, (∀ n ∈ ns, (F n).length = waysS (aftI S o n)) → i < (ns.map fun n => waysS (aftI S o n)).sum → (ns.flatMap F)[i]? = (F (pickI S o ns i).1)[(pickI S o ns i).2]?
  | [], i, _, h => by simp at h
  | n :: ns, i, hF, h => by
    have hn := hF n (by simp)
    rw [List.flatMap_cons]
    unfold pickI
    by_cases q : i < waysS (aftI S o n)
    · rw [if_pos q, List.getElem?_append_left (by omega)]
    · rw [if_neg q, List.getElem?_append_right (by omega), hn]
      simp only [List.map_cons, List.sum_cons] at h
      exact pick_get (fun m hm => hF m (by simp [hm])) (by omega)
theorem nth_get : ∀ {f : List Int} {S : S3} {i : Nat}, St v S f → i < waysS S → (wayL S f)[i]? = some (nthL S f i)
  | [], S, i, h, hi => by
    rw [ways_nil h] at hi
    have : i = 0 := by omega
    subst this
    rfl
  | o :: f, S, i, h, hi => by
    rw [ways_split h] at hi
    obtain ⟨h1, h2⟩ := pick_ok hi
    unfold wayL
    rw [pick_get (fun n hn => by rw [List.length_map, wayL_len (h.after hn)]) hi, List.getElem?_map, nth_get (h.after h1) h2]
    rfl
theorem nth_fit {i : Nat} (h : St v S f) (hi : i < waysS S) : Fit v S f (nthL S f i) := (mem_wayL h).mp (List.mem_of_getElem? (nth_get h hi))
/-! the number -/
def idxL : S3 → List Int → List Int → Nat
  | S, o :: f, n :: g => (((optI S o).filter fun m => decide (m < n)).map fun m => waysS (aftI S o m)).sum + idxL (aftI S o n) f g
  | _, _, _ => 0
theorem flat_at {F : Int → List (List Int)} {x : List Int} {j : Nat} : ∀ {ns : List Int}, ns.Pairwise (· < ·) → n ∈ ns → (F n)[j]? = some x → (ns.flatMap F)[((ns.filter fun m => decide (m < n)).map fun m => (F m).length).sum + j]? = some x
  | [], _, h, _ => nomatch h
  | a :: ns, hp, hn, hx => by
    obtain ⟨h1, h2⟩ := List.pairwise_cons.mp hp
    rw [List.flatMap_cons, List.filter_cons]
    rcases List.mem_cons.mp hn with q | q
    · subst q
      have e : (ns.filter fun m => decide (m < n)) = [] := List.filter_eq_nil_iff.mpr fun m hm => by
        have := h1 m hm
        simp; omega
      rw [if_neg (by simp), e]
      simp only [List.map_nil, List.sum_nil, Nat.zero_add]
      rw [List.getElem?_append_left (List.getElem?_eq_some_iff.mp hx).1]
      exact hx
    · have := h1 n q
      rw [if_pos (by simpa using this), List.map_cons, List.sum_cons, List.getElem?_append_right (by omega)]
      have e : (F a).length + ((ns.filter fun m => decide (m < n)).map fun m => (F m).length).sum + j - (F a).length = ((ns.filter fun m => decide (m < n)).map fun m => (F m).length).sum + j := by omega
      rw [e]
      exact flat_at h2 q hx
theorem idx_get : ∀ {f g : List Int} {S : S3}, St v S f → Fit v S f g → (wayL S f)[idxL S f g]? = some g
  | [], g, S, h, k => by
    have := k.len
    rw [List.eq_nil_of_length_eq_zero this]
    rfl
  | o :: f, [], S, h, k => by have := k.len; simp at this
  | o :: f, n :: g, S, h, k => by
    obtain ⟨hn, k2⟩ := (fit_cons h).mp k
    have ih := idx_get (h.after hn) k2
    have := flat_at (F := fun n => (wayL (aftI S o n) f).map fun r => n :: r) (n := n) (x := n :: g) (j := idxL (aftI S o n) f g) opt_sorted hn (by rw [List.getElem?_map, ih]; rfl)
    unfold wayL idxL
    have e : (((optI S o).filter fun m => decide (m < n)).map fun m => waysS (aftI S o m)) = ((optI S o).filter fun m => decide (m < n)).map fun m => ((wayL (aftI S o m) f).map fun r => m :: r).length := List.map_congr_left fun m hm => by
      rw [List.length_map, wayL_len (h.after (List.mem_filter.mp hm).1)]
    rw [e]
    exact this
theorem pw_inj {l : List (List Int)} (h : l.Pairwise lexLt) {i j : Nat} {x : List Int} (hi : l[i]? = some x) (hj : l[j]? = some x) : i = j := by
  obtain ⟨i1, e1⟩ := List.getElem?_eq_some_iff.mp hi
  obtain ⟨j1, e2⟩ := List.getElem?_eq_some_iff.mp hj
  have p := List.pairwise_iff_getElem.mp h
  rcases Nat.lt_trichotomy i j with q | q | q
  · have := p i j i1 j1 q
    rw [e1, e2] at this
    exact (lexLt_irr this).elim
  · exact q
  · have := p j i j1 i1 q
    rw [e1, e2] at this
    exact (lexLt_irr this).elim
theorem idx_nth {i : Nat} (h : St v S f) (hi : i < waysS S) : idxL S f (nthL S f i) = i := pw_inj (wayL_pw f S) (idx_get h (nth_fit h hi)) (nth_get h hi)
/-! the next one -/
def gS : S3 → List Int → List Int → Nat → S3
  | S, o :: f, n :: g, p + 1 => gS (aftI S o n) f g p
  | S, _, _, _ => S
theorem gS_st : ∀ {f g : List Int} {S : S3} {p : Nat}, St v S f → Fit v S f g → p ≤ f.length → St v (gS S f g p) (f.drop p) ∧ ∀ t, Fit v S f (g.take p ++ t) ↔ Fit v (gS S f g p) (f.drop p) t
  | [], g, S, 0, h, k, _ => ⟨by cases g <;> exact h, fun t => by cases g <;> exact Iff.rfl⟩
  | o :: f, [], S, 0, h, k, _ => ⟨h, fun t => Iff.rfl⟩
  | o :: f, n :: g, S, 0, h, k, _ => ⟨h, fun t => Iff.rfl⟩
  | [], _, S, p + 1, h, k, hp => by simp at hp
  | o :: f, [], S, p + 1, h, k, hp => by have := k.len; simp at this
  | o :: f, n :: g, S, p + 1, h, k, hp => by
    obtain ⟨hn, k2⟩ := (fit_cons h).mp k
    obtain ⟨h1, h2⟩ := gS_st (p := p) (h.after hn) k2 (by simpa using hp)
    refine ⟨h1, fun t => ?_⟩
    show Fit v S (o :: f) (n :: (g.take p ++ t)) ↔ _
    rw [fit_cons h, h2 t]
    exact ⟨fun z => z.2, fun z => ⟨hn, z⟩⟩
theorem gS_next : ∀ {f g : List Int} {S : S3} {p : Nat}, g.length = f.length → p < f.length → gS S f g (p + 1) = aftI (gS S f g p) (f.getD p 0) (g.getD p 0)
  | [], _, _, _, _, h => by simp at h
  | o :: f, [], _, _, h, _ => by simp at h
  | o :: f, n :: g, S, 0, _, _ => by
    show gS (aftI S o n) f g 0 = aftI S o n
    cases f <;> cases g <;> rfl
  | o :: f, n :: g, S, p + 1, h1, h2 => gS_next (f := f) (g := g) (p := p) (by simpa using h1) (by simpa using h2)
/-- the greater choices at a place -/
def grL (S : S3) (f g : List Int) (p : Nat) : List Int := (optI (gS S f g p) (f.getD p 0)).filter fun m => decide (g.getD p 0 < m)
def fndL (S : S3) (f g : List Int) : Nat → Option (List Int)
  | 0 => none
  | p + 1 => match grL S f g p with
    | [] => fndL S f g p
    | m :: _ => some (g.take p ++ m :: firstI (aftI (gS S f g p) (f.getD p 0) m) (f.drop (p + 1)))
def Dif (g r : List Int) (p : Nat) : Prop := ∃ q, q < p ∧ r.take q = g.take q ∧ g.getD q 0 < r.getD q 0
theorem lexLe_pre : ∀ {a x y : List Int}, lexLe x y → lexLe (a ++ x) (a ++ y)
  | [], _, _, h => h
  | _ :: a, _, _, h => .inr ⟨rfl, lexLe_pre (a := a) h⟩
theorem lexLt_of : ∀ {x y : List Int} {q : Nat}, q < x.length → q < y.length → x.take q = y.take q → x.getD q 0 < y.getD q 0 → lexLt x y
  | [], _, _, h, _, _, _ => by simp at h
  | _ :: _, [], _, _, h, _, _ => by simp at h
  | a :: x, b :: y, 0, _, _, _, h => .inl h
  | a :: x, b :: y, q + 1, h1, h2, h3, h4 => by
    simp only [List.take_succ_cons, List.cons.injEq] at h3
    exact .inr ⟨h3.1, lexLt_of (q := q) (by simpa using h1) (by simpa using h2) h3.2 h4⟩
theorem of_lexLt : ∀ {x y : List Int}, lexLt x y → ∃ q, q < x.length ∧ y.take q = x.take q ∧ x.getD q 0 < y.getD q 0
  | [], _, h => h.elim
  | _ :: _, [], h => h.elim
  | a :: x, b :: y, h => by
    unfold lexLt at h
    rcases h with h | ⟨rfl, h⟩
    · exact ⟨0, by simp, rfl, h⟩
    · obtain ⟨q, h1, h2, h3⟩ := of_lexLt h
      exact ⟨q + 1, by simpa using h1, by simp [h2], h3⟩
theorem take_drop_eq {r g : List Int} {p : Nat} (h : r.take p = g.take p) : r = g.take p ++ r.drop p := by rw [← h, List.take_append_drop]
theorem drop_cons {r : List Int} {p : Nat} (h : p < r.length) : r.drop p = r.getD p 0 :: r.drop (p + 1) := by rw [List.drop_eq_getElem_cons h, gd_lt h]
theorem fnd_spec (h : St v S f) (k : Fit v S f g) : ∀ p, p ≤ f.length →
    (fndL S f g p = none → ∀ r, Fit v S f r → ¬ Dif g r p) ∧ ∀ r, fndL S f g p = some r → Fit v S f r ∧ Dif g r p ∧ ∀ r', Fit v S f r' → Dif g r' p → lexLe r r'
  | 0, _ => ⟨fun _ r _ ⟨q, hq, _⟩ => by omega, fun r hr => nomatch hr⟩
  | p + 1, hp => by
    obtain ⟨i1, i2⟩ := fnd_spec h k p (by omega)
    have gl := k.len
    obtain ⟨s1, s2⟩ := gS_st (p := p) h k (by omega)
    rw [drop_cons (by omega : p < f.length)] at s1 s2
    have split : ∀ r, Dif g r (p + 1) ↔ Dif g r p ∨ (r.take p = g.take p ∧ g.getD p 0 < r.getD p 0) := fun r => by
      constructor
      · rintro ⟨q, hq, h1, h2⟩
        by_cases w : q = p
        · subst w; exact .inr ⟨h1, h2⟩
        · exact .inl ⟨q, by omega, h1, h2⟩
      · rintro (⟨q, hq, h1, h2⟩ | ⟨h1, h2⟩)
        · exact ⟨q, by omega, h1, h2⟩
        · exact ⟨p, by omega, h1, h2⟩
    have here : ∀ r, Fit v S f r → r.take p = g.take p → g.getD p 0 < r.getD p 0 → r.getD p 0 ∈ grL S f g p ∧ Fit v (aftI (gS S f g p) (f.getD p 0) (r.getD p 0)) (f.drop (p + 1)) (r.drop (p + 1)) := fun r kr h1 h2 => by
      have rl := kr.len
      rw [take_drop_eq h1, drop_cons (by omega : p < r.length)] at kr
      obtain ⟨a1, a2⟩ := (fit_cons s1).mp ((s2 _).mp kr)
      exact ⟨List.mem_filter.mpr ⟨a1, by simpa using h2⟩, a2⟩
    unfold fndL
    cases e : grL S f g p with
    | nil =>
      refine ⟨fun hn r kr d => ?_, fun r hr => ?_⟩
      · rcases (split r).mp d with d | ⟨h1, h2⟩
        · exact i1 hn r kr d
        · have := (here r kr h1 h2).1
          rw [e] at this
          cases this
      · obtain ⟨a1, a2, a3⟩ := i2 r hr
        refine ⟨a1, (split r).mpr (.inl a2), fun r' kr' d => ?_⟩
        rcases (split r').mp d with d | ⟨h1, h2⟩
        · exact a3 r' kr' d
        · have := (here r' kr' h1 h2).1
          rw [e] at this
          cases this
    | cons m ms =>
      refine ⟨fun hn => (nomatch hn), fun r hr => ?_⟩
      have er := (Option.some.inj hr).symm
      have hm : m ∈ grL S f g p := by rw [e]; simp
      obtain ⟨m1, m2⟩ := List.mem_filter.mp hm
      have m3 := of_decide_eq_true m2
      have sa := s1.after m1
      have ka := first_fit sa
      have kr : Fit v S f r := by rw [er]; exact (s2 _).mpr ((fit_cons s1).mpr ⟨m1, ka⟩)
      have tl : (g.take p).length = p := by rw [List.length_take]; omega
      have rt : r.take p = g.take p := by rw [er, List.take_append_of_le_length (by omega), List.take_of_length_le (by omega)]
      have rp : r.getD p 0 = m := by rw [er, List.getD_eq_getElem?_getD, List.getElem?_append_right (by omega), tl, Nat.sub_self]; rfl
      have rl := kr.len
      refine ⟨kr, (split r).mpr (.inr ⟨rt, by rw [rp]; exact m3⟩), fun r' kr' d => ?_⟩
      have rl' := kr'.len
      rcases (split r').mp d with ⟨q, hq, h1, h2⟩ | ⟨h1, h2⟩
      · refine lexLt.le (lexLt_of (q := q) (by omega) (by omega) ?_ ?_)
        · have := congrArg (List.take q) rt
          rw [List.take_take, List.take_take, Nat.min_eq_left (by omega)] at this
          rw [this, h1]
        · have a1 : r.getD q 0 = g.getD q 0 := by
            have := congrArg (fun l => l.getD q 0) rt
            simp only [List.getD_eq_getElem?_getD, List.getElem?_take, hq, if_true] at this
            simp only [List.getD_eq_getElem?_getD]
            exact this
          omega
      · obtain ⟨b1, b2⟩ := here r' kr' h1 h2
        have ps : (grL S f g p).Pairwise (· < ·) := opt_sorted.filter _
        have le := head_le ps _ b1
        rw [e] at le
        have le' : m ≤ r'.getD p 0 := le
        rw [er, take_drop_eq h1, drop_cons (by omega : p < r'.length)]
        refine lexLe_pre ?_
        unfold lexLe
        by_cases w : m = r'.getD p 0
        · rw [← w] at b2 ⊢
          exact .inr ⟨rfl, first_le sa b2⟩
        · exact .inl (by omega)
/-- the next one in the list of all -/
theorem fnd_next {i : Nat} (h : St v S f) (hi : i < waysS S) : fndL S f (nthL S f i) f.length = if i + 1 < waysS S then some (nthL S f (i + 1)) else none := by
  have k := nth_fit h hi
  obtain ⟨s1, s2⟩ := fnd_spec h k f.length (Nat.le_refl _)
  have gi := nth_get h hi
  have wl := wayL_len h
  have gl := k.len
  have pw := wayL_pw f S
  have dif : ∀ r, Fit v S f r → (Dif (nthL S f i) r f.length ↔ lexLt (nthL S f i) r) := fun r kr => by
    have rl := kr.len
    constructor
    · rintro ⟨q, hq, h1, h2⟩
      exact lexLt_of (by omega) (by omega) h1.symm h2
    · intro hl
      obtain ⟨q, h1, h2, h3⟩ := of_lexLt hl
      exact ⟨q, by omega, h2, h3⟩
  by_cases w : i + 1 < waysS S
  · rw [if_pos w]
    have k1 := nth_fit h w
    have g1 := nth_get h w
    obtain ⟨a1, a2⟩ := List.getElem?_eq_some_iff.mp gi
    obtain ⟨b1, b2⟩ := List.getElem?_eq_some_iff.mp g1
    have lt := List.pairwise_iff_getElem.mp pw i (i + 1) a1 b1 (by omega)
    rw [a2, b2] at lt
    cases e : fndL S f (nthL S f i) f.length with
    | none => exact absurd ((dif _ k1).mpr lt) (s1 e _ k1)
    | some r =>
      obtain ⟨c1, c2, c3⟩ := s2 r e
      have le1 := c3 _ k1 ((dif _ k1).mpr lt)
      have gr := (dif r c1).mp c2
      obtain ⟨j, hj, ej⟩ := List.getElem_of_mem ((mem_wayL h).mpr c1)
      have hij : i < j := by
        refine Decidable.byContradiction fun hc => ?_
        have := pw_le pw hj a1 (by omega)
        rw [ej, a2] at this
        have := lexLe_anti this gr.le
        rw [this] at gr
        exact lexLt_irr gr
      have le2 := pw_le pw b1 hj (by omega)
      rw [b2, ej] at le2
      rw [lexLe_anti le1 le2]
  · rw [if_neg w]
    cases e : fndL S f (nthL S f i) f.length with
    | none => rfl
    | some r =>
      exfalso
      obtain ⟨c1, c2, _⟩ := s2 r e
      have gr := (dif r c1).mp c2
      obtain ⟨j, hj, ej⟩ := List.getElem_of_mem ((mem_wayL h).mpr c1)
      obtain ⟨a1, a2⟩ := List.getElem?_eq_some_iff.mp gi
      have := pw_le pw hj a1 (by omega)
      rw [ej, a2] at this
      have := lexLe_anti this gr.le
      rw [this] at gr
      exact lexLt_irr gr
/-- the first is the first -/
theorem nth_zero (h : St v S f) (h0 : 0 < waysS S) : nthL S f 0 = firstI S f := by
  have k := first_fit h
  have g0 := nth_get h h0
  obtain ⟨a1, a2⟩ := List.getElem?_eq_some_iff.mp g0
  obtain ⟨j, hj, ej⟩ := List.getElem_of_mem ((mem_wayL h).mpr k)
  have le := pw_le (wayL_pw f S) a1 hj (by omega)
  rw [a2, ej] at le
  exact lexLe_anti le (first_le h (nth_fit h h0))
/-- the order of two by number -/
theorem nth_lt {i j : Nat} (h : St v S f) (hi : i < waysS S) (hj : j < waysS S) (hij : i < j) : lexLt (nthL S f i) (nthL S f j) := by
  obtain ⟨a1, a2⟩ := List.getElem?_eq_some_iff.mp (nth_get h hi)
  obtain ⟨b1, b2⟩ := List.getElem?_eq_some_iff.mp (nth_get h hj)
  have := List.pairwise_iff_getElem.mp (wayL_pw f S) i j a1 b1 hij
  rwa [a2, b2] at this
theorem ways_pos (h : St v S f) : 0 < waysS S := by
  rw [← wayL_len h]
  exact List.length_pos_of_mem ((mem_wayL h).mpr (first_fit h))
theorem sum_le_pt : ∀ {as bs : List Int}, as.length = bs.length → (∀ j, j < as.length → as.getD j 0 ≤ bs.getD j 0) → as.sum ≤ bs.sum
  | [], [], _, _ => Int.le_refl _
  | a :: as, b :: bs, hl, h => by
    have h0 := h 0 (by simp)
    have := sum_le_pt (as := as) (bs := bs) (by simpa using hl) fun j hj => h (j + 1) (by simpa using hj)
    rw [List.sum_cons, List.sum_cons]
    have h0' : a ≤ b := h0
    omega
  | [], _ :: _, h, _ => by simp at h
  | _ :: _, [], h, _ => by simp at h
theorem St.ok (h : St v S f) (h20 : f.length ≤ 20) (h5 : v ≤ 5) : StOk S.c S.l S.e := by
  have cl := h.cl
  have ll := h.ll
  have el := h.el
  have cg : ∀ j, j < S.c.length → S.c.getD j 0 = f.count (j : Int) := fun j hj => by
    have := h.cs (j : Int) (by omega)
    unfold gI at this
    rwa [Int.toNat_natCast] at this
  have cs : S.c.sum = f.length := by
    have e : S.c = (upI 0 v.toNat).map fun i => (f.count i : Int) := by
      apply List.ext_getElem
      · simp [upI]; omega
      · intro i h1 h2
        have := cg i h1
        rw [gd_lt h1] at this
        rw [this]
        simp [upI]
    rw [e]
    exact count_sum v.toNat f fun n hn => by have := h.rng n hn; omega
  refine ⟨by omega, by omega, by omega, fun p hp => ?_, h.enn, ?_⟩
  · obtain ⟨i, hi, rfl⟩ := List.getElem_of_mem hp
    have i1 : i < S.c.length := by simp at hi; omega
    have i2 : i < S.l.length := by omega
    rw [List.getElem_zip]
    have a1 := cg i i1
    have a2 := h.ls (i : Int) (by omega)
    unfold gI at a2
    rw [Int.toNat_natCast, gd_lt i2] at a2
    rw [gd_lt i1] at a1
    have a3 : f.count (i : Int) ≤ f.length := List.count_le_length
    show 0 ≤ S.l[i] ∧ S.l[i] ≤ S.c[i] ∧ S.c[i] ≤ 20
    omega
  · rw [← h.sum]
    have := sum_le_pt (as := S.l) (bs := S.c) (by omega) fun j hj => by
      have a2 := h.ls (j : Int) (by omega)
      unfold gI at a2
      rw [Int.toNat_natCast] at a2
      have := cg j (by omega)
      omega
    omega
end Lm

/-! promises: by number, the number, the next one -/
namespace Lm
open PySem PySem.Spec PyProof.Rows L2
section
variable {X : Cx} {K : PySem.W.Frag} (hK : X.K = K)
include hK
theorem k_ltT (hu : X.A.units < cLine) : OpR X (compareOp .Lt) (rLtT K) := hK ▸ op_ltT hu
theorem k_tru {e : Expr} {ta : TE} (ha : PE X e ta) (he : ∀ whole, isTrue e X.env whole = (do let v ← whole; standAt e.pos; holding [v] (truthy v)) := by intro _; rfl) : PT X e (fun σ H Q => ta σ H fun x H' => ∃ k, TruV K x H' k ∧ Q k H') := hK ▸ pt_truth ha he
end
theorem rUnits0 {k : Nat} {A : Around} (hr : Room k A) : A.units < cLine := by have := hr.un; omega
section
variable {c : Ct} {Γ Γ' Γ1 : List (Option Rs)} {te ta tb : TE} {tr : TA} {u : TS} {k ka kb : Kd} {P : Out → Prop}
theorem q_brk (h : P (.bk Γ)) : Sd c (tSeq tBreak u) Γ P := s_seq (P1 := fun o => o = .bk Γ) (s_brk rfl) (fun _ e => nomatch e) (fun _ _ e => nomatch e) (fun _ e => by cases e; exact h) (fun _ e => nomatch e)
theorem t_truL {ds : List PyData} (h : Ev c te Γ k (.list ds)) : EvT c (fun σ H Q => te σ H fun x H' => ∃ k, TruV c.K x H' k ∧ Q k H') Γ (!ds.isEmpty) := fun H0 O H σ e Q q =>
  h H0 O H σ e _ fun v H1 r s => by
    obtain ⟨p, xs, rfl, ok, sq, al⟩ := (Res.bo e s).lst'
    refine ⟨!xs.isEmpty, .inl ⟨xs, sq, rfl⟩, ?_⟩
    have : xs.isEmpty = ds.isEmpty := by
      have := al.len
      cases xs <;> cases ds <;> simp_all
    rw [this]
    exact q H1 r
theorem e_isnotB {a b : Bool} (ha : Ev c ta Γ ka (.bool a)) (hb : Ev c tb Γ kb (.bool b)) : Ev c (tOp (fun x y H Q => ∃ a b, x = V.bl a ∧ y = V.bl b ∧ Q (.bl (!decide (a = b))) H) ta tb) Γ .v (.bool (!decide (a = b))) :=
  d_bin ha hb fun H O v u Q bv bu q => ⟨a, b, bv.bl', bu.bl', q _ H Rr.rf (.bl _)⟩
theorem e_isB {a b : Bool} (ha : Ev c ta Γ ka (.bool a)) (hb : Ev c tb Γ kb (.bool b)) : Ev c (tOp (fun x y H Q => ∃ a b, x = V.bl a ∧ y = V.bl b ∧ Q (.bl (decide (a = b))) H) ta tb) Γ .v (.bool (decide (a = b))) :=
  d_bin ha hb fun H O v u Q bv bu q => ⟨a, b, bv.bl', bu.bl', q _ H Rr.rf (.bl _)⟩
theorem n_lst3 {tx : TE} {kx : Kd} {x y : PyData} {Pc : PyData → Prop} (ha : Ev c ta Γ ka x) (hb : Ev c tb Γ kb y) (hc : EvN c tx Γ kx Pc) (fx : flatD x = true) (fy : flatD y = true) (hp : ∀ z, Pc z → flatD z = true) : EvN c (tLst (tCons ta (tCons tb (tCons tx tNil)))) Γ .o (fun d => ∃ z, d = .list [x, y, z] ∧ Pc z) := fun H0 O H σ e Q q =>
  ha H0 O H σ e _ fun v H1 r1 s1 => hb H0 O H1 σ (e.on r1) _ fun u H2 r2 s2 => hc H0 O H2 σ ((e.on r1).on r2) _ fun w z H3 pz r3 s3 => by
    refine ⟨by show 3 ≤ sizeLine; decide, fun p hp' => ?_⟩
    have sm : Same H3 (upd H3 p (.lst [v, u, w])) := fun b u z => by rw [upd_ne (ne_of_none z hp')]; exact z
    have al : BoAll c H3 [v, u, w] [x, y, z] := .cons (Res.bo e (Res.on e r1 (r2.tr r3) s1)) (.cons (Res.bo (e.on r1) (Res.on (e.on r1) r2 r3 s2)) (.cons (Res.bo ((e.on r1).on r2) s3) .nil))
    have fl : flatAll [x, y, z] = true := flatAll_mem fun d hd => by
      simp only [List.mem_cons, List.not_mem_nil, or_false] at hd
      rcases hd with w | w | w
      · rw [w]; exact fx
      · rw [w]; exact fy
      · rw [w]; exact hp z pz
    refine q _ _ _ ⟨z, rfl, pz⟩ (((r1.tr r2).tr r3).tr (Rr.same sm)) ⟨[p], .lst upd_same (FoAll.leaves fl (al.same sm)), by simp, fun a ha => ?_⟩
    cases List.mem_singleton.mp ha
    exact ((r1.tr r2).tr r3).back e.jH hp'
theorem e_ltT {ns ms : List Int} (ha : Ev c ta Γ ka (.tuple (ns.map .int))) (hb : Ev c tb Γ kb (.tuple (ms.map .int))) : Ev c (tOp (rLtT c.K) ta tb) Γ .v (.bool (HT.lexLt ns ms)) :=
  d_bin ha hb fun H O v u Q bv bu q => by
    obtain ⟨p, xs, rfl, s, al⟩ := bv.tup'
    obtain ⟨p', xs', rfl, s', al'⟩ := bu.tup'
    have := al.ints
    subst this
    have := al'.ints
    subst this
    exact ⟨p, p', ns, ms, rfl, rfl, s.sq, s'.sq, q _ H Rr.rf (.bl _)⟩
end
def sp__law_nextW (K : PySem.W.Frag) : Sp := spS K fun ds k P => ∃ m : Int, ds = [.int m] ∧ 0 < m ∧ m < 2582249878086908589655919172003011874329705792829223512830659356540647622016841194629645353280137831435903171972747493376 ∧ k = .v ∧ P = fun d => ∃ n : Int, d = .int n ∧ 0 ≤ n ∧ n < m
variable {v o n : Int} {S : S3} {f g as : List Int}
def sp_picked (K : PySem.W.Frag) : Sp := spD K fun ds k d => ∃ (S : S3) (v o : Int) (f : List Int) (i : Nat), ds = [stD S, .int o, .int (i : Int)] ∧ St v S (o :: f) ∧ v ≤ 5 ∧ f.length < 20 ∧ i < waysS S ∧ k = .v ∧ d = .tuple [.int (pickI S o (optI S o) i).1, .int ((pickI S o (optI S o) i).2 : Nat)]
def sp_nth_change (K : PySem.W.Frag) : Sp := spD K fun ds k d => ∃ (as f : List Int) (v : Int) (i : Nat), ds = [.tuple (as.map .int), .tuple (f.map .int), .int (i : Int)] ∧ Asg f v ∧ Alc as v f.length ∧ 1 ≤ v ∧ v ≤ 5 ∧ i < waysS (s0I v f as) ∧ k = .v ∧ d = .tuple ((nthL (s0I v f as) f i).map .int)
def idxD (v : Int) (f as g : List Int) : PyData := if countsI g v = as ∧ zs ne1 f g = trI (countsI f v) as then .int (idxL (s0I v f as) f g : Nat) else .none
def sp_index_of (K : PySem.W.Frag) : Sp := spD K fun ds k d => ∃ (as f g : List Int) (v : Int), ds = [.tuple (as.map .int), .tuple (f.map .int), .tuple (g.map .int)] ∧ Asg f v ∧ Asg g v ∧ f.length = g.length ∧ Alc as v f.length ∧ 1 ≤ v ∧ v ≤ 5 ∧ k = .v ∧ d = idxD v f as g
def optD : Option (List Int) → PyData
  | none => .none
  | some r => .tuple (r.map .int)
def sp_next_change (K : PySem.W.Frag) : Sp := spD K fun ds k d => ∃ (as f g : List Int) (v b : Int), ds = [.tuple (as.map .int), .tuple (f.map .int), .tuple (g.map .int), .int b] ∧ Asg f v ∧ Alc as v f.length ∧ Lst v f as g ∧ 1 ≤ v ∧ v ≤ 5 ∧ 0 ≤ b ∧ b < f.length ∧ k = .v ∧ d = optD (fndL (s0I v f as) f g (b.toNat + 1))
theorem exD_zero : exD v f as g = .int 0 ↔ countsI g v = as ∧ zs ne1 f g = trI (countsI f v) as := by
  unfold exD
  constructor
  · intro h
    split at h
    · rename_i w
      exact ⟨w, by have : zs ne1 f g - trI (countsI f v) as = 0 := PyData.int.inj h; omega⟩
    · cases h
  · rintro ⟨h1, h2⟩
    rw [if_pos h1, h2, Int.sub_self]
theorem flat_idx : flatD (idxD v f as g) = true := by unfold idxD; split <;> rfl
theorem flat_opt (r : Option (List Int)) : flatD (optD r) = true := by
  cases r with
  | none => rfl
  | some r => exact flatT r
/-! the states on the way by number -/
def nS : S3 → List Int → Nat → Nat → S3 × Nat
  | S, o :: f, i, n + 1 => nS (aftI S o (pickI S o (optI S o) i).1) f (pickI S o (optI S o) i).2 n
  | S, _, i, _ => (S, i)
theorem nS_st : ∀ {f : List Int} {S : S3} {i n : Nat}, St v S f → i < waysS S → n ≤ f.length → St v (nS S f i n).1 (f.drop n) ∧ (nS S f i n).2 < waysS (nS S f i n).1
  | [], S, i, 0, h, hi, _ => ⟨h, hi⟩
  | o :: f, S, i, 0, h, hi, _ => ⟨h, hi⟩
  | [], S, i, n + 1, h, hi, hn => by simp at hn
  | o :: f, S, i, n + 1, h, hi, hn => by
    have hi' := hi
    rw [ways_split h] at hi'
    obtain ⟨h1, h2⟩ := pick_ok hi'
    exact nS_st (f := f) (h.after h1) h2 (by simpa using hn)
theorem nS_next : ∀ {f : List Int} {S : S3} {i n : Nat} (hn : n < f.length), nS S f i (n + 1) = (aftI (nS S f i n).1 f[n] (pickI (nS S f i n).1 f[n] (optI (nS S f i n).1 f[n]) (nS S f i n).2).1, (pickI (nS S f i n).1 f[n] (optI (nS S f i n).1 f[n]) (nS S f i n).2).2)
  | [], _, _, _, hn => by simp at hn
  | o :: f, S, i, 0, _ => by
    show nS _ f _ 0 = _
    cases f <;> rfl
  | o :: f, S, i, n + 1, hn => nS_next (f := f) (by simpa using hn)
theorem nS_nth : ∀ {f : List Int} {S : S3} {i n : Nat} (hn : n < f.length), (nthL S f i).take (n + 1) = (nthL S f i).take n ++ [(pickI (nS S f i n).1 f[n] (optI (nS S f i n).1 f[n]) (nS S f i n).2).1]
  | [], _, _, _, hn => by simp at hn
  | o :: f, S, i, 0, _ => by simp [nthL, nS]
  | o :: f, S, i, n + 1, hn => by
    have := nS_nth (f := f) (S := aftI S o (pickI S o (optI S o) i).1) (i := (pickI S o (optI S o) i).2) (n := n) (by simpa using hn)
    simp only [nthL, List.take_succ_cons, List.cons_append]
    rw [this]
    rfl
theorem nth_len : ∀ {f : List Int} {S : S3} {i : Nat}, (nthL S f i).length = f.length
  | [], _, _ => rfl
  | o :: f, S, i => by simp [nthL, nth_len (f := f)]
/-- the number, place by place -/
theorem idx_step (hl : g.length = f.length) {p : Nat} (hp : p < f.length) : idxL (gS S f g p) (f.drop p) (g.drop p) = (((optI (gS S f g p) (f.getD p 0)).filter fun m => decide (m < g.getD p 0)).map fun m => waysS (aftI (gS S f g p) (f.getD p 0) m)).sum + idxL (gS S f g (p + 1)) (f.drop (p + 1)) (g.drop (p + 1)) := by
  rw [gS_next hl hp, drop_cons hp, drop_cons (show p < g.length by omega)]
  rfl
theorem ways_bound (hf : Asg f v) (ha : Alc as v f.length) (hv : 1 ≤ v) (hv5 : v ≤ 5) : (waysS (s0I v f as) : Int) < 2582249878086908589655919172003011874329705792829223512830659356540647622016841194629645353280137831435903171972747493376 := by
  have hc := hf.alc (v := v) (by omega)
  have f20 := hf.len
  have cl := hc.len
  have L := left_right (hc.lens ha) hc.nn ha.nn (ways_T hc ha)
  have gp : 0 < prodN ((List.range (countsI f v).length).map (gL (countsI f v) as)) := prodN_pos fun a h => by
    obtain ⟨j, _, rfl⟩ := List.mem_map.mp h
    exact Nat.mul_pos (Nat.mul_pos (fac_pos _) (fac_pos _)) (fac_pos _)
  have le1 : waysS (s0I v f as) ≤ fac (trI (countsI f v) as).toNat * prodN ((List.range (countsI f v).length).map fun j => fac (nAt (countsI f v) j)) := by
    rw [← L]
    exact Nat.le_mul_of_pos_right _ gp
  have tr20 : (trI (countsI f v) as).toNat ≤ 20 := by
    have := zs_le_sum (hc.lens ha) hc.nn ha.nn
    rw [← trI_zs (hc.lens ha), hc.sum] at this
    omega
  have pl : ∀ (B : Nat) (l : List Nat), (∀ a ∈ l, a ≤ B) → prodN l ≤ B ^ l.length := fun B l => by
    induction l with
    | nil => intro _; exact Nat.le_refl _
    | cons a l ih =>
      intro h
      rw [List.length_cons, Nat.pow_succ, Nat.mul_comm]
      exact Nat.mul_le_mul (h a (by simp)) (ih fun b hb => h b (by simp [hb]))
  have f20' : fac 20 = 2432902008176640000 := by decide
  have le2 := pl (fac 20) ((List.range (countsI f v).length).map fun j => fac (nAt (countsI f v) j)) fun a h => by
    obtain ⟨j, hj, rfl⟩ := List.mem_map.mp h
    have hj' := List.mem_range.mp hj
    have := hc.le _ (gd_mem hj')
    exact fac_le (by unfold nAt; omega)
  have le3 : (fac 20) ^ ((List.range (countsI f v).length).map fun j => fac (nAt (countsI f v) j)).length ≤ (fac 20) ^ 5 := Nat.pow_le_pow_right (fac_pos _) (by simp; omega)
  have le4 := Nat.mul_le_mul (fac_le tr20) (Nat.le_trans le2 le3)
  have le5 := Nat.le_trans le1 le4
  rw [f20'] at le5
  have : (2432902008176640000 * 2432902008176640000 ^ 5 : Nat) < 2582249878086908589655919172003011874329705792829223512830659356540647622016841194629645353280137831435903171972747493376 := by decide
  omega
theorem lexLt_HT : ∀ {ns ms : List Int}, ns.length = ms.length → (HT.lexLt ns ms = true ↔ lexLt ns ms)
  | [], [], _ => by simp [HT.lexLt, lexLt]
  | a :: ns, b :: ms, h => by
    have ih := lexLt_HT (ns := ns) (ms := ms) (by simpa using h)
    unfold HT.lexLt lexLt
    by_cases q : a = b
    · subst q
      simp [ih]
    · simp [q]
  | [], _ :: _, h => by simp at h
  | _ :: _, [], h => by simp at h
end Lm

/-! list(zip(a, b)), a and b tuples -/
namespace PySem.F
theorem zip_no_len : typeLookup (.type "zip") "__len__" = pure none := by rw [typeLookup_type, builtinLookup_eq_fast]; kernel_rfl
theorem zip_no_hint : typeLookup (.type "zip") "__length_hint__" = pure none := by rw [typeLookup_type, builtinLookup_eq_fast]; kernel_rfl
end PySem.F
namespace Lm
open PySem PySem.Spec PyProof.Rows L2
section
variable {prog : Program} {w : World} {A : Around} {E : Value → Shared → Prop} {s : Shared}
/-- next(z) -/
theorem pyNext_zip {z TI TO : Addr} {x : Value} {b : Bool} {Q : Option Value → Shared → Prop} (hz : IsZipX s.heap z TI TO x b)
    (h : ∀ E' : Value → Shared → Prop, wpAny (model prog w) A.in1 (Builtin.«zip.__next__» ⟨[.ref z], []⟩) (fun fin s' => ∃ v, fin = .done (.ret v) ∧ Q (some v) s') E' s) : wpAny (model prog w) A (pyNext (.ref z)) Q E s := by
  have hT : s.TypeIs (.ref z) "zip" := ⟨_, hz, rfl⟩
  unfold pyNext
  refine wpAny_bind (wpAny_attempt (wpAny_callSpecial?_slot (name := Str.ofString "__next__") hT F.slot_zip_next
    (wpAny_call_entry F.slot_zip_next hT F.entry_zip_next ?_ (F.args_zip_next_1 _))))
  refine wpAny_mono (h _) (fun fin s' ⟨v, e, q⟩ => ?_) fun _ _ y => y
  subst e
  exact ⟨v, rfl, wpAny_pure q⟩
theorem pyNext_zip_end {z TI TO i1 i2 : Addr} {x : Value} {b : Bool} {fp1 fp2 : List Addr} {n1 : Nat} {P1 : Nat → Value → Prop} {St1 : Nat → Heap → Prop} {Q : Option Value → Shared → Prop}
    (S : ZipSep2 z TI TO i1 i2 fp1 fp2) (D1 : ∀ A' : Around, A'.handled = none → Draws prog w A' i1 fp1 n1 P1 St1) (hh : A.handled = none) (hz : IsZipX s.heap z TI TO x b) (hx : x = .none ∨ ∃ T : Addr, x = rawInt T) (hTI : IsTupOf2 s.heap TI (.ref i1) (.ref i2)) (st1 : St1 n1 s.heap)
    (hQ : ∀ h', (∀ c o, c ≠ z → c ≠ i1 → s.heap.get? c = some o → h'.get? c = some o) → Q none { s with heap := h' }) : wpAny (model prog w) A (pyNext (.ref z)) Q E s := by
  have hT : s.TypeIs (.ref z) "zip" := ⟨_, hz, rfl⟩
  unfold pyNext
  refine wpAny_bind (wpAny_attempt (wpAny_callSpecial?_slot (name := Str.ofString "__next__") hT F.slot_zip_next
    (wpAny_call_entry F.slot_zip_next hT F.entry_zip_next ?_ (F.args_zip_next_1 _))))
  refine zipX_end S (D1 _ hh) hz hx hTI st1 fun h' x' he' hx' => ?_
  obtain ⟨o, ho, hc⟩ := hx'
  refine wpAny_bind (wpAny_isInstance (T := "StopIteration") (b := true) ⟨o, ho, hc⟩ isSubtype_stop ?_)
  exact wpAny_pure (hQ _ he')
/-- zip at its end: the first iterator goes on, the second has ended -/
theorem zipX_end2 {z TI TO i1 i2 : Addr} {fp1 fp2 : List Addr} {n1 n2 i : Nat} {P1 P2 : Nat → Value → Prop} {St1 St2 : Nat → Heap → Prop} {a1 a2 x : Value} {b : Bool} {Q : Fin → Shared → Prop} (S : ZipSep2 z TI TO i1 i2 fp1 fp2) (D1 : Draws prog w A i1 fp1 n1 P1 St1) (D2 : Draws prog w A i2 fp2 n2 P2 St2)
    (hz : IsZipX s.heap z TI TO x b) (hx : x = .none ∨ ∃ T : Addr, x = rawInt T) (hTI : IsTupOf2 s.heap TI (.ref i1) (.ref i2)) (hTO : IsTupOf2 s.heap TO a1 a2) (st1 : St1 i s.heap) (st2 : St2 n2 s.heap) (hlt1 : i < n1)
    (hE : ∀ h' tk e, (∀ c o, c ≠ z → c ≠ TO → c ≠ i1 → c ≠ i2 → s.heap.get? c = some o → h'.get? c = some o) → (∃ o, h'.get? e = some o ∧ o.cls = .type "StopIteration") → E (.ref e) { s with heap := h', toks := tk }) :
    wpAny (model prog w) A (Builtin.«zip.__next__» ⟨[.ref z], []⟩) Q E s := by
  obtain ⟨hp, g, d, tk0, os⟩ := s
  show wpAny _ _ (field (.ref z) 2 >>= _) _ _ _
  refine wpAny_bind (wpAny_field hz rfl (x := .bool false) rfl ?_)
  show wpAny _ _ (field (.ref z) 3 >>= _) _ _ _
  refine wpAny_bind (wpAny_field hz rfl (x := .ref TI) rfl ?_)
  refine wpAny_bind (wpAny_seqItems hTI rfl ?_)
  show wpAny _ _ (Builtin.SmallTypes.ownedTupleIsFree (.ref z) >>= _) _ _ _
  refine wpAny_bind (zipX_free hz hx ?_ fun g0 hz0 hs0 => ?_)
  · simp only [if_true]
    refine wpAny_bind (wpAny_rule (wpAny_bind (wpAny_field hz rfl (x := .ref TO) rfl ?_)))
    refine wpAny_bind (wpAny_setField_rec hz (by simp) fun g0 hz0 hs0 => ?_)
    replace hz0 : IsZipX g0 z TI TO .ellipsis b := hz0
    replace hs0 : Heap.SameBut z hp g0 := hs0
    refine wpAny_bind ?_
    simp only [List.zipIdx_cons, List.zipIdx_nil, List.forIn_cons, List.forIn_nil]
    refine wpAny_bind (wpAny_bind (wpAny_onRaise ?_))
    show wpAny _ _ (Builtin.SmallTypes.nextOf (.ref i1) >>= _) _ _ ⟨g0, g, d, tk0, os⟩
    refine wpAny_bind (D1.item i _ _ _ hlt1 (D1.over st1 hs0 S.zf1) fun x1 p1 tk1 hx1 sn1 hp1 => wpAny_pure ?_)
    replace hp1 : Heap.SameBut i1 g0 p1 := hp1
    have hU1 : IsTupOf2 p1 TO a1 a2 := hp1.extBut _ _ S.Ti1 (hs0.extBut _ _ S.TOz hTO)
    refine wpAny_bind (wpAny_seqItems (s := ⟨p1, g, d, tk1, os⟩) hU1 rfl ?_)
    refine wpAny_bind (updateSeq_IsTupOf2 (s := ⟨p1, g, d, tk1, os⟩) hU1 fun g1 hT1 hs1 => ?_)
    replace hT1 : IsTupOf2 g1 TO x1 a2 := hT1
    replace hs1 : Heap.SameBut TO p1 g1 := hs1
    refine wpAny_bind (wpAny_letGo (wpAny_pure ?_))
    refine wpAny_bind (wpAny_bind (wpAny_onRaise ?_))
    show wpAny _ _ (Builtin.SmallTypes.nextOf (.ref i2) >>= _) _ _ ⟨g1, g, d, tk1, os⟩
    refine wpAny_bind (D2.done ⟨g1, g, d, tk1, os⟩ _ _ (D2.over (D2.over (D2.over st2 hs0 S.zf2) hp1 S.sep1_2) hs1 S.Tf2) fun q e hq he => ?_)
    replace hq : Heap.ExtBut i2 g1 q := hq
    obtain ⟨oe, hoe, hce⟩ := he
    replace hoe : q.get? e = some oe := hoe
    have hz1 : IsZipX g1 z TI TO .ellipsis b := hs1.extBut _ _ S.TOz.symm (hp1.extBut _ _ S.zi1 hz0)
    have hzq : IsZipX q z TI TO .ellipsis b := hq _ _ S.zi2 hz1
    have hez : e ≠ z := fun y => by subst y; rw [hzq] at hoe; cases hoe; simp at hce
    refine wpAny_setField_rec (s := ⟨q, g, d, tk1, os⟩) hzq (by simp) fun q' _ hq' => ?_
    replace hq' : Heap.SameBut z q q' := hq'
    exact hE q' tk1 e (fun c o cz cT c1 c2 y => hq'.extBut _ _ cz (hq _ _ c2 (hs1.extBut _ _ cT (hp1.extBut _ _ c1 (hs0.extBut _ _ cz y))))) ⟨oe, hq'.extBut _ _ hez hoe, hce⟩
  · replace hs0 : Heap.SameBut z hp g0 := hs0
    simp only [Bool.false_eq_true, if_false]
    refine wpAny_bind ?_
    rw [← Array.forIn_toList]
    simp only [List.forIn_cons, List.forIn_nil]
    refine wpAny_bind (wpAny_bind (wpAny_holding ?_))
    show wpAny _ _ (Builtin.SmallTypes.nextOf (.ref i1) >>= _) _ _ ⟨g0, g, d, tk0, os⟩
    refine wpAny_bind (D1.item i _ _ _ hlt1 (D1.over st1 hs0 S.zf1) fun x1 p1 tk1 hx1 sn1 hp1 => wpAny_pure ?_)
    replace hp1 : Heap.SameBut i1 g0 p1 := hp1
    refine wpAny_pure ?_
    refine wpAny_bind (wpAny_bind (wpAny_holding ?_))
    show wpAny _ _ (Builtin.SmallTypes.nextOf (.ref i2) >>= _) _ _ ⟨p1, g, d, tk1, os⟩
    refine wpAny_bind (D2.done ⟨p1, g, d, tk1, os⟩ _ _ (D2.over (D2.over st2 hs0 S.zf2) hp1 S.sep1_2) fun q e hq he => ?_)
    replace hq : Heap.ExtBut i2 p1 q := hq
    exact hE q tk1 e (fun c o cz _ c1 c2 y => hq _ _ c2 (hp1.extBut _ _ c1 (hs0.extBut _ _ cz y))) he
theorem pyNext_zip_end2 {z TI TO i1 i2 : Addr} {x a1 a2 : Value} {b : Bool} {fp1 fp2 : List Addr} {n1 n2 i : Nat} {P1 P2 : Nat → Value → Prop} {St1 St2 : Nat → Heap → Prop} {Q : Option Value → Shared → Prop}
    (S : ZipSep2 z TI TO i1 i2 fp1 fp2) (D1 : ∀ A' : Around, A'.handled = none → Draws prog w A' i1 fp1 n1 P1 St1) (D2 : ∀ A' : Around, A'.handled = none → Draws prog w A' i2 fp2 n2 P2 St2) (hh : A.handled = none) (hz : IsZipX s.heap z TI TO x b) (hx : x = .none ∨ ∃ T : Addr, x = rawInt T) (hTI : IsTupOf2 s.heap TI (.ref i1) (.ref i2)) (hTO : IsTupOf2 s.heap TO a1 a2) (st1 : St1 i s.heap) (st2 : St2 n2 s.heap) (hlt1 : i < n1)
    (hQ : ∀ h' tk, (∀ c o, c ≠ z → c ≠ TO → c ≠ i1 → c ≠ i2 → s.heap.get? c = some o → h'.get? c = some o) → Q none { s with heap := h', toks := tk }) : wpAny (model prog w) A (pyNext (.ref z)) Q E s := by
  have hT : s.TypeIs (.ref z) "zip" := ⟨_, hz, rfl⟩
  unfold pyNext
  refine wpAny_bind (wpAny_attempt (wpAny_callSpecial?_slot (name := Str.ofString "__next__") hT F.slot_zip_next
    (wpAny_call_entry F.slot_zip_next hT F.entry_zip_next ?_ (F.args_zip_next_1 _))))
  refine zipX_end2 S (D1 _ hh) (D2 _ hh) hz hx hTI hTO st1 st2 hlt1 fun h' tk x' he' hx' => ?_
  obtain ⟨o, ho, hc⟩ := hx'
  refine wpAny_bind (wpAny_isInstance (T := "StopIteration") (b := true) ⟨o, ho, hc⟩ isSubtype_stop ?_)
  exact wpAny_pure (hQ _ _ he')
end
/-- a zip at its i-th turn -/
def ZAt (St1 St2 : Nat → Heap → Prop) (h : Heap) (z TI TO i1 i2 : Addr) (i : Nat) : Prop :=
  (∃ x bb, IsZipX h z TI TO x bb ∧ (x = .none ∨ ∃ T : Addr, x = rawInt T)) ∧ IsTupOf2 h TI (.ref i1) (.ref i2) ∧ (∃ a1 a2, IsTupOf2 h TO a1 a2) ∧ St1 i h ∧ St2 i h
theorem ZAt.at {St1 St2 : Nat → Heap → Prop} {h h' : Heap} {z TI TO i1 i2 a b : Addr} {i : Nat} (x : ZAt St1 St2 h z TI TO i1 i2 i) (f1 : (∀ c ∈ [i1, a], ∀ o, h.get? c = some o → h'.get? c = some o) → St1 i h → St1 i h') (f2 : (∀ c ∈ [i2, b], ∀ o, h.get? c = some o → h'.get? c = some o) → St2 i h → St2 i h') (k : ∀ c ∈ [z, TI, TO, i1, i2, a, b], ∀ o, h.get? c = some o → h'.get? c = some o) : ZAt St1 St2 h' z TI TO i1 i2 i := by
  obtain ⟨⟨x, bb, hz, hx⟩, hTI, ⟨a1, a2, hTO⟩, h1, h2⟩ := x
  exact ⟨⟨x, bb, k z (by simp) _ hz, hx⟩, k TI (by simp) _ hTI, ⟨a1, a2, k TO (by simp) _ hTO⟩, f1 (fun c hc => k c (by simp at hc ⊢; rcases hc with q | q <;> simp [q])) h1, f2 (fun c hc => k c (by simp at hc ⊢; rcases hc with q | q <;> simp [q])) h2⟩
/-- the tuples given out so far -/
def ZOut (h : Heap) (n0 : Nat) (its its2 : Array Value) (ts : List Addr) : Prop :=
  ts.Pairwise (· < ·) ∧ ∀ (j : Nat) (t : Addr), ts[j]? = some t → n0 ≤ t ∧ ∃ x y, its[j]? = some x ∧ its2[j]? = some y ∧ IsTupOf2 h t x y
section
variable {prog : Program} {w : World} {A : Around} {R : Result → Shared → Prop}
theorem zip_loop {z TI TO i1 i2 a b S : Addr} {its its2 : Array Value} {n0 : Nat} {St1 St2 : Nat → Heap → Prop} (Sep : ZipSep2 z TI TO i1 i2 [i1, a] [i2, b]) (D1 : ∀ A' : Around, A'.handled = none → Draws prog w A' i1 [i1, a] its.size (fun i v => its[i]? = some v) St1) (D2 : ∀ A' : Around, A'.handled = none → Draws prog w A' i2 [i2, b] its2.size (fun i v => its2[i]? = some v) St2) (hS : S ∉ [z, TI, TO, i1, i2, a, b]) (hlow : ∀ c ∈ [z, TI, TO, i1, i2, a, b, S], c < n0) (hl : its2.size = its.size ∨ its2.size + 1 = its.size) (hn : its.size ≤ sizeLine) (hh : A.handled = none) (res : Value) :
    ∀ (k i : Nat) (s : Shared) (acc : Array Value) (c : Nat) (ts : List Addr), its2.size - i = k → i ≤ its2.size → ZAt St1 St2 s.heap z TI TO i1 i2 i → s.heap.get? S = some { cls := .type "list", dict := none, data := .seq acc c, slots := #[] } → acc.toList = ts.map Value.ref → ts.length = i → ZOut s.heap n0 its its2 ts → n0 ≤ s.heap.objs.size →
    (∀ h' tk acc' c' ts', (∀ c o, c ∉ [z, TO, i1, i2, S] → s.heap.get? c = some o → h'.get? c = some o) → h'.get? S = some { cls := .type "list", dict := none, data := .seq acc' c', slots := #[] } → acc'.toList = ts'.map Value.ref → ts'.length = its2.size → ZOut h' n0 its its2 ts' → R (.ok (.ret res)) { s with heap := h', toks := tk }) →
    codeAny (model prog w) A (.builtin "list.extend.loop" ⟨[.ref S, .ref z, res], []⟩) R s := by
  intro k
  induction k with
  | zero =>
    intro i s acc c ts hk hi hst hSl hacc hts hout hn0 hR
    have hin : i = its2.size := by omega
    obtain ⟨⟨x0, bb, hz, hx0⟩, hTI, ⟨a1, a2, hTO⟩, h1, h2⟩ := hst
    refine codeAny_builtin F.entry_extend_loop ?_
    rw [Around.under_plainId F.plain_extend_loop _]
    show wpAny _ A.in1 (pyNext (.ref z) >>= _) _ _ s
    have hSz : S ≠ z := fun q => hS (by simp [q])
    have hS1 : S ≠ i1 := fun q => hS (by simp [q])
    have fin : ∀ h' tk, (∀ c o, c ≠ z → c ≠ TO → c ≠ i1 → c ≠ i2 → s.heap.get? c = some o → h'.get? c = some o) → R (.ok (.ret res)) { s with heap := h', toks := tk } := fun h' tk hk' => by
      refine hR h' tk acc c ts (fun c o hc e => hk' c o (fun q => hc (by simp [q])) (fun q => hc (by simp [q])) (fun q => hc (by simp [q])) (fun q => hc (by simp [q])) e) (hk' S _ hSz (fun q => hS (by simp [q])) hS1 (fun q => hS (by simp [q])) hSl) hacc (by omega) ⟨hout.1, fun j t ht => ?_⟩
      obtain ⟨g1, x, y, gx, gy, gt⟩ := hout.2 j t ht
      have nt : ∀ c ∈ [z, TI, TO, i1, i2, a, b, S], t ≠ c := fun c hc q => by
        have := hlow c hc
        rw [q] at g1
        exact absurd g1 (Nat.not_le.mpr this)
      exact ⟨g1, x, y, gx, gy, hk' t _ (nt z (by simp)) (nt TO (by simp)) (nt i1 (by simp)) (nt i2 (by simp)) gt⟩
    by_cases hq : its2.size = its.size
    · exact wpAny_bind (pyNext_zip_end (n1 := its.size) Sep D1 hh hz hx0 hTI (by rw [← hq, ← hin]; exact h1) fun h' hk' => wpAny_pure (fin h' s.toks fun c o c1 _ c3 _ e => hk' c o c1 c3 e))
    · exact wpAny_bind (pyNext_zip_end2 (i := i) (n2 := its2.size) Sep D1 D2 hh hz hx0 hTI hTO h1 (by rw [← hin]; exact h2) (by omega) fun h' tk hk' => wpAny_pure (fin h' tk hk'))
  | succ k ih =>
    intro i s acc c ts hk hi hst hSl hacc hts hout hn0 hR
    have hlt2 : i < its2.size := by omega
    have hlt : i < its.size := by omega
    obtain ⟨⟨x0, bb, hz, hx0⟩, hTI, ⟨a1, a2, hTO⟩, h1, h2⟩ := hst
    refine codeAny_builtin F.entry_extend_loop ?_
    rw [Around.under_plainId F.plain_extend_loop _]
    show wpAny _ A.in1 (pyNext (.ref z) >>= _) _ _ s
    have nS : ∀ c ∈ [z, TI, TO, i1, i2, a, b], S ≠ c := fun c hc q => hS (q ▸ hc)
    refine wpAny_bind (pyNext_zip hz fun E' => zipX_item Sep (D1 _ (by exact hh)) (D2 _ (by exact hh)) hz hx0 hTI hTO h1 h2 hlt (by omega) fun v1 v2 g1 tk x' b' hv1 hv2 hz' hx' hTO' s1' s2' hT hsz hk' => ?_)
    have hS1 : g1.get? S = some { cls := .type "list", dict := none, data := .seq acc c, slots := #[] } := hk' S _ (nS z (by simp)) (nS TO (by simp)) (nS i1 (by simp)) (nS i2 (by simp)) hSl
    have lowS : S < n0 := hlow S (by simp)
    show wpAny _ A.in1 (updateSeq S (·.push (Value.ref s.heap.objs.size)) >>= _) _ _ _
    refine wpAny_bind ?_
    have asz : acc.size = i := by have := congrArg List.length hacc; simp at this; omega
    have hTI' : IsTupOf2 g1 TI (.ref i1) (.ref i2) := hk' _ _ Sep.TIz Sep.TITO Sep.TIi1 Sep.TIi2 hTI
    have up : ∀ c o, c ≠ S → g1.get? c = some o → (g1.update S (Obj.mapSeq (·.push (Value.ref s.heap.objs.size)))).get? c = some o := fun c o hc e => (Heap.get?_update_other _ _ (fun q => hc q.symm)).trans e
    refine wpAny_updateSeq hS1 rfl (wpAny_pure ⟨plainId_quiet F.plain_extend_loop _, ih (i + 1) _ (acc.push (Value.ref s.heap.objs.size)) _ (ts ++ [s.heap.objs.size]) (by omega) hlt2 ?_ (Heap.get?_update_self _ hS1 rfl) (by simp [hacc]) (by simp [hts]) ?_ ?_ fun h' tk' acc' c' ts' f1 f2 f3 f4 f5 => ?_⟩)
      (by rw [asz]; omega) (by show (acc.push _).size ≤ sizeLine + 1; rw [Array.size_push, asz]; omega)
    · refine ZAt.at (h := g1) (a := a) (b := b) ⟨⟨x', b', hz', hx'⟩, hTI', hTO', s1', s2'⟩ (fun k s => (D1 A hh).frame _ _ _ s k) (fun k s => (D2 A hh).frame _ _ _ s k) fun c hc o e => up c o (fun q => ?_) e
      exact hS (q ▸ hc)
    · refine ⟨List.pairwise_append.mpr ⟨hout.1, List.pairwise_singleton .., fun t ht u hu => ?_⟩, fun j t ht => ?_⟩
      · rw [List.mem_singleton.mp hu]
        obtain ⟨j, hj⟩ := List.getElem?_of_mem ht
        obtain ⟨_, x, y, _, _, gt⟩ := hout.2 j t hj
        exact Heap.lt_size gt
      · by_cases q : j < ts.length
        · rw [List.getElem?_append_left q] at ht
          obtain ⟨g2, x, y, gx, gy, gt⟩ := hout.2 j t ht
          have nt : ∀ c ∈ [z, TI, TO, i1, i2, a, b, S], t ≠ c := fun c hc q => by
            have := hlow c hc
            rw [q] at g2
            exact absurd g2 (Nat.not_le.mpr this)
          exact ⟨g2, x, y, gx, gy, up _ _ (nt S (by simp)) (hk' t _ (nt z (by simp)) (nt TO (by simp)) (nt i1 (by simp)) (nt i2 (by simp)) gt)⟩
        · rw [List.getElem?_append_right (by omega)] at ht
          have hj : j = ts.length := by
            have := (List.getElem?_eq_some_iff.mp ht).1
            simp at this
            omega
          rw [hj, Nat.sub_self] at ht
          have et : s.heap.objs.size = t := Option.some.inj ht
          refine ⟨by rw [← et]; exact hn0, v1, v2, ?_, ?_, ?_⟩
          · rw [hj, hts]; exact hv1
          · rw [hj, hts]; exact hv2
          · rw [← et]
            refine up _ _ (fun q => ?_) hT
            rw [← q] at lowS
            exact absurd hn0 (Nat.not_le.mpr lowS)
    · show n0 ≤ (g1.update S _).objs.size
      rw [Heap.size_update, hsz]
      omega
    · refine hR h' tk' acc' c' ts' (fun c o hc e => f1 c o hc (up c o (fun q => hc (by simp [q])) (hk' c o (fun q => hc (by simp [q])) (fun q => hc (by simp [q])) (fun q => hc (by simp [q])) (fun q => hc (by simp [q])) e))) f2 f3 f4 f5
/-- what list(z) leaves -/
def ZDone (h h' : Heap) (z TO i1 i2 S : Addr) (n0 : Nat) (its its2 : Array Value) : Prop :=
  (∀ c o, c ∉ [z, TO, i1, i2, S] → h.get? c = some o → h'.get? c = some o) ∧ ∃ acc' c' ts', h'.get? S = some { cls := .type "list", dict := none, data := .seq acc' c', slots := #[] } ∧ acc'.toList = ts'.map Value.ref ∧ ts'.length = its2.size ∧ ZOut h' n0 its its2 ts'
theorem zip_extend {s : Shared} {z TI TO i1 i2 a b S : Addr} {f0 : Value} {its its2 : Array Value} {n0 : Nat} {St1 St2 : Nat → Heap → Prop} (Sep : ZipSep2 z TI TO i1 i2 [i1, a] [i2, b]) (D1 : ∀ A' : Around, A'.handled = none → Draws prog w A' i1 [i1, a] its.size (fun i v => its[i]? = some v) St1) (D2 : ∀ A' : Around, A'.handled = none → Draws prog w A' i2 [i2, b] its2.size (fun i v => its2[i]? = some v) St2) (hS : S ∉ [z, TI, TO, i1, i2, a, b]) (hlow : ∀ c ∈ [z, TI, TO, i1, i2, a, b, S], c < n0) (hl : its2.size = its.size ∨ its2.size + 1 = its.size) (hn : its.size ≤ sizeLine) (hh : A.handled = none) (res : Value) (c₀ : Nat)
    (hz : IsZip s.heap z TI TO f0) (hst : ZAt St1 St2 s.heap z TI TO i1 i2 0) (hSl : s.heap.get? S = some { cls := .type "list", data := .seq #[] c₀ }) (hn0 : n0 ≤ s.heap.objs.size)
    (hR : ∀ h' tk, ZDone s.heap h' z TO i1 i2 S n0 its its2 → R (.ok (.ret res)) { s with heap := h', toks := tk }) :
    wpAny (model prog w) A.in1 (Builtin.List.listExtendWith (.ref S) (.ref z) res)
      (fun fin s' => match fin with | .done f => R (.ok f) s' | .again c' => c'.quiet = true ∧ codeAny (model prog w) A c' R s') (fun e s' => R (.error e) s') s := by
  have hT : s.TypeIs (.ref z) "zip" := ⟨_, hz, rfl⟩
  have hSz : S ≠ z := fun q => hS (by simp [q])
  unfold Builtin.List.listExtendWith
  refine wpAny_bind (wpAny_typeOf hT ?_)
  have h1 : Builtin.List.listSameRef (.ref S) (.ref z) = false := by simp [Builtin.List.listSameRef, hSz]
  have h2 : (Value.type "zip" == Value.type "list") = false := by decide
  have h3 : (Value.type "zip" == Value.type "tuple") = false := by decide
  simp only [h1, h2, h3, Bool.or_false, Bool.false_eq_true, if_false]
  refine wpAny_bind (wpAny_pyIter_zip hz ?_)
  refine wpAny_bind (wpAny_holding ?_)
  unfold Builtin.List.listLengthHint
  refine wpAny_bind (wpAny_specialOf hT F.zip_no_len ?_)
  show wpAny _ A.in1 (specialOf (Value.ref z) (Str.ofString "__length_hint__") >>= _) _ _ _
  refine wpAny_bind (wpAny_specialOf hT F.zip_no_hint ?_)
  refine wpAny_pure ?_
  show wpAny _ A.in1 (rule "list.extend.makes-room" >>= fun _ => Builtin.List.listTouch (.ref S) >>= fun _ =>
    again (.builtin "list.extend.loop" ⟨[.ref S, .ref z, res], []⟩)) _ _ _
  refine wpAny_bind (wpAny_rule ?_)
  refine wpAny_bind ?_
  show wpAny _ A.in1 (updateSeq S (·.push .none) >>= fun _ => updateSeq S (·.pop)) _ _ _
  refine wpAny_bind (wpAny_updateSeq hSl rfl ?_)
  have hS₂ := Heap.get?_update_self (Obj.mapSeq (·.push Value.none)) hSl rfl
  refine wpAny_updateSeq (hz := by seq_fits) hS₂ rfl ?_
  have hS₃ := Heap.get?_update_self (Obj.mapSeq (·.pop)) hS₂ rfl
  have oth : ∀ b o, b ≠ S → s.heap.get? b = some o → ((s.heap.update S (Obj.mapSeq (·.push Value.none))).update S (Obj.mapSeq (·.pop))).get? b = some o :=
    fun b o hb e => (Heap.get?_update_other _ _ (Ne.symm hb)).trans ((Heap.get?_update_other _ _ (Ne.symm hb)).trans e)
  refine wpAny_pure ⟨plainId_quiet F.plain_extend_loop _, zip_loop Sep D1 D2 hS hlow hl hn hh res its2.size 0 _ _ _ [] rfl (Nat.zero_le _)
    (hst.at (a := a) (b := b) (fun k s => (D1 A hh).frame _ _ _ s k) (fun k s => (D2 A hh).frame _ _ _ s k) fun c hc o e => oth c o (fun q => hS (q ▸ hc)) e) hS₃ rfl rfl ⟨List.Pairwise.nil, fun j t ht => by simp at ht⟩ (by show n0 ≤ ((s.heap.update S _).update S _).objs.size; rw [Heap.size_update, Heap.size_update]; exact hn0) fun h' tk acc' c' ts' f1 f2 f3 f4 f5 => ?_⟩
  exact hR h' tk ⟨fun c o hc e => f1 c o hc (oth c o (fun q => hc (by simp [q])) e), acc', c', ts', f2, f3, f4, f5⟩
theorem zip_init {s : Shared} {z TI TO i1 i2 a b S : Addr} {f0 : Value} {its its2 : Array Value} {n0 : Nat} {St1 St2 : Nat → Heap → Prop} (Sep : ZipSep2 z TI TO i1 i2 [i1, a] [i2, b]) (D1 : ∀ A' : Around, A'.handled = none → Draws prog w A' i1 [i1, a] its.size (fun i v => its[i]? = some v) St1) (D2 : ∀ A' : Around, A'.handled = none → Draws prog w A' i2 [i2, b] its2.size (fun i v => its2[i]? = some v) St2) (hS : S ∉ [z, TI, TO, i1, i2, a, b]) (hlow : ∀ c ∈ [z, TI, TO, i1, i2, a, b, S], c < n0) (hl : its2.size = its.size ∨ its2.size + 1 = its.size) (hn : its.size ≤ sizeLine) (hh : A.handled = none)
    (hz : IsZip s.heap z TI TO f0) (hst : ZAt St1 St2 s.heap z TI TO i1 i2 0) (hSl : s.heap.get? S = some { cls := .type "list", data := .seq #[] }) (hn0 : n0 ≤ s.heap.objs.size)
    (hR : ∀ h' tk, ZDone s.heap h' z TO i1 i2 S n0 its its2 → R (.ok (.ret .none)) { s with heap := h', toks := tk }) :
    wpAny (model prog w) A.in1 (Builtin.«list.__init__» ⟨[.ref S, .ref z], []⟩)
      (fun fin s' => match fin with | .done f => R (.ok f) s' | .again c' => c'.quiet = true ∧ codeAny (model prog w) A c' R s') (fun e s' => R (.error e) s') s := by
  show wpAny _ A.in1 (do let old ← Builtin.List.listItems (.ref S); Builtin.List.listUpdate (.ref S) (fun _ => #[]); letGo old.toList.reverse; Builtin.List.listExtendWith (.ref S) (.ref z) .none) _ _ s
  refine wpAny_bind ?_
  unfold Builtin.List.listItems
  refine wpAny_bind (wpAny_seqItems hSl rfl (wpAny_pure ?_))
  show wpAny _ A.in1 (updateSeq S (fun _ => #[]) >>= fun _ => letGo (#[] : Array Value).toList.reverse >>= fun _ => Builtin.List.listExtendWith (.ref S) (.ref z) .none) _ _ s
  refine wpAny_bind (wpAny_updateSeq hSl rfl ?_)
  have hS₂ := Heap.get?_update_self (Obj.mapSeq (fun _ => (#[] : Array Value))) hSl rfl
  have oth : ∀ b o, b ≠ S → s.heap.get? b = some o → (s.heap.update S (Obj.mapSeq (fun _ => (#[] : Array Value)))).get? b = some o :=
    fun b o hb e => (Heap.get?_update_other _ _ (Ne.symm hb)).trans e
  refine wpAny_bind (wpAny_letGo ?_)
  refine zip_extend Sep D1 D2 hS hlow hl hn hh .none _ (oth z _ (fun q => hS (by simp [q])) hz) (hst.at (a := a) (b := b) (fun k s => (D1 A hh).frame _ _ _ s k) (fun k s => (D2 A hh).frame _ _ _ s k) fun c hc o e => oth c o (fun q => hS (q ▸ hc)) e) hS₂ (by show n0 ≤ (s.heap.update S _).objs.size; rw [Heap.size_update]; exact hn0) fun h' tk ⟨f1, f2⟩ => ?_
  exact hR h' tk ⟨fun c o hc e => f1 c o hc (oth c o (fun q => hc (by simp [q])) e), f2⟩
end
section
variable {prog : Program} {w : World} {A : Around} {E : Value → Shared → Prop} {s : Shared}
theorem call_list_zip {Q : Value → Shared → Prop} {z TI TO i1 i2 a b : Addr} {f0 : Value} {its its2 : Array Value} {St1 St2 : Nat → Heap → Prop} (Sep : ZipSep2 z TI TO i1 i2 [i1, a] [i2, b]) (D1 : ∀ A' : Around, A'.handled = none → Draws prog w A' i1 [i1, a] its.size (fun i v => its[i]? = some v) St1) (D2 : ∀ A' : Around, A'.handled = none → Draws prog w A' i2 [i2, b] its2.size (fun i v => its2[i]? = some v) St2) (hlow : ∀ c ∈ [z, TI, TO, i1, i2, a, b], c < s.heap.objs.size) (hl : its2.size = its.size ∨ its2.size + 1 = its.size) (hn : its.size ≤ sizeLine) (hh : A.handled = none)
    (hz : IsZip s.heap z TI TO f0) (hst : ZAt St1 St2 s.heap z TI TO i1 i2 0)
    (hQ : ∀ h' tk, ZDone (s.heap.push { cls := .type "list", data := .seq #[] }) h' z TO i1 i2 s.heap.objs.size (s.heap.objs.size + 1) its its2 → Q (.ref s.heap.objs.size) { s with heap := h', toks := tk }) :
    wpAny (model prog w) A (call (.type "list") [.ref z]) Q E s := by
  refine callType_codes (Q₁ := fun obj s₁ => obj = .ref s.heap.objs.size ∧ s₁ = { s with heap := s.heap.push { cls := .type "list", data := .seq #[] } }) F.called_list (F.typeCall_list_1 _) F.entry_list_init
    (code_list_new _ ⟨rfl, rfl⟩) fun obj s₁ h₁ => ?_
  obtain ⟨rfl, rfl⟩ := h₁
  have hS : (s.heap.push { cls := .type "list", data := .seq #[] }).get? s.heap.objs.size = some { cls := .type "list", data := .seq #[] } := Heap.get?_push_size _ rfl
  refine ⟨⟨_, hS, rfl⟩, F.args_list_init_2 _ _, zip_init (n0 := s.heap.objs.size + 1) Sep D1 D2 (fun hm => Nat.lt_irrefl _ (hlow _ hm)) (fun c hc => ?_) hl hn (by exact hh) (Heap.get?_push_of_some _ hz) (hst.at (a := a) (b := b) (fun k s => (D1 A hh).frame _ _ _ s k) (fun k s => (D2 A hh).frame _ _ _ s k) fun c _ o e => Heap.get?_push_of_some _ e) hS (by show _ ≤ (s.heap.push _).objs.size; rw [Heap.size_push]; exact Nat.le_refl _) fun h' tk f => ?_⟩
  · have hc' : c ∈ [z, TI, TO, i1, i2, a, b] ∨ c = s.heap.objs.size := by simpa [or_assoc] using hc
    rcases hc' with q | q
    · exact Nat.lt_succ_of_lt (hlow c q)
    · rw [q]; exact Nat.lt_succ_self _
  · exact ⟨rfl, hQ h' tk f⟩
end
end Lm
namespace Lm
open PySem PySem.Spec PyProof.Rows L2
/-- the heap with the tuples told -/
def addT (H : Hp) (ts : List Addr) (its its2 : Array Value) (xs ys : List V) : Hp := fun b => if b ∈ ts then some (.frz { cls := .type "tuple", data := .seq #[its.getD (ts.idxOf b) .none, its2.getD (ts.idxOf b) .none] } (.tup [xs.getD (ts.idxOf b) .non, ys.getD (ts.idxOf b) .non])) else H b
theorem idx_at {ts : List Addr} (h : ts.Pairwise (· < ·)) {j : Nat} {t : Addr} (e : ts[j]? = some t) : ts.idxOf t = j := by
  obtain ⟨hj, e2⟩ := List.getElem?_eq_some_iff.mp e
  have hm : t ∈ ts := List.mem_of_getElem? e
  have hi := List.idxOf_lt_length_of_mem hm
  have p := List.pairwise_iff_getElem.mp h
  have eg : ts[ts.idxOf t] = t := List.getElem_idxOf _
  rcases Nat.lt_trichotomy (ts.idxOf t) j with q | q | q
  · have := p _ _ hi hj q
    rw [eg, e2] at this
    exact absurd this (Nat.lt_irrefl _)
  · exact q
  · have := p _ _ hj hi q
    rw [eg, e2] at this
    exact absurd this (Nat.lt_irrefl _)
def tLstZip (K : PySem.W.Frag) (ta : TA) : TE := fun σ H Q => ta σ H fun vs H1 => ∃ a b xs ys, vs = [.ref a, .ref b] ∧ ((SqT K H1 a xs ∧ SqT K H1 b ys) ∨ (SqL K H1 a xs ∧ SqL K H1 b ys)) ∧ (ys.length = xs.length ∨ ys.length + 1 = xs.length) ∧ xs.length ≤ sizeLine ∧
  ∀ (ts : List Addr) (H' : Hp) (p : Addr), ts.length = ys.length → (∀ (j : Nat) (t : Addr) (x y : V), ts[j]? = some t → xs[j]? = some x → ys[j]? = some y → ∃ o : Obj, o.dict = none ∧ H' t = some (.frz o (.tup [x, y]))) → (∀ b u, H1 b = some u → H' b = some u) → H' p = none → H1 p = none → Q (.ref p) (upd H' p (.lst (ts.map V.ref)))
theorem listZip_tail {X : Cx} {pins : List (Addr × Obj)} {σ : L2.St} {H1 : Hp} {s1 : Shared} {Q : VK} {a b : Addr} {xs ys : List V} {its its2 : List Value} {h' : Heap} {St1 St2 : Nat → Heap → Prop} (I1 : Inv X pins σ H1 s1) (rv : Vals xs its) (rv2 : Vals ys its2) (hlen : ys.length = xs.length ∨ ys.length + 1 = xs.length) (hsz : xs.length ≤ sizeLine) (la : a < s1.heap.objs.size) (lb : b < s1.heap.objs.size) (hhd : X.A.handled = none)
    (D1 : ∀ A' : Around, A'.handled = none → Draws X.prog X.w A' s1.heap.objs.size [s1.heap.objs.size, a] its.toArray.size (fun i v => its.toArray[i]? = some v) St1) (D2 : ∀ A' : Around, A'.handled = none → Draws X.prog X.w A' (s1.heap.objs.size + 1) [s1.heap.objs.size + 1, b] its2.toArray.size (fun i v => its2.toArray[i]? = some v) St2)
    (hz : IsZip h' (s1.heap.objs.size + 4) (s1.heap.objs.size + 2) (s1.heap.objs.size + 3) .none) (hTI : IsPair h' (s1.heap.objs.size + 2) (.ref s1.heap.objs.size) (.ref (s1.heap.objs.size + 1))) (hTO : IsPair h' (s1.heap.objs.size + 3) .none .none) (st1 : St1 0 h') (st2 : St2 0 h') (hsz5 : h'.objs.size = s1.heap.objs.size + 5) (hk : ∀ c o, s1.heap.get? c = some o → h'.get? c = some o)
    (q : ∀ (ts : List Addr) (H' : Hp) (p : Addr), ts.length = ys.length → (∀ (j : Nat) (t : Addr) (x y : V), ts[j]? = some t → xs[j]? = some x → ys[j]? = some y → ∃ o : Obj, o.dict = none ∧ H' t = some (.frz o (.tup [x, y]))) → (∀ b u, H1 b = some u → H' b = some u) → H' p = none → H1 p = none → Q (.ref p) (upd H' p (.lst (ts.map V.ref)))) :
    wpAny (model X.prog X.w) X.A (call (.type "list") [.ref (s1.heap.objs.size + 4)]) (EP X pins σ Q) X.xe { s1 with heap := h' } := by
  have l1 := rv.length
  have l2 := rv2.length
  refine call_list_zip (s := { s1 with heap := h' }) (zip_sep2 (N := s1.heap.objs.size) (fp1 := [a]) (fp2 := [b]) (fun c hc => by cases List.mem_singleton.mp hc; exact la) (fun c hc => by cases List.mem_singleton.mp hc; exact lb)) D1 D2 (fun c hc => ?_) (its := its.toArray) (its2 := its2.toArray) (by simp; omega) (by simp; omega) hhd hz ⟨⟨_, _, hz, .inl rfl⟩, hTI, ⟨_, _, hTO⟩, st1, st2⟩ fun h'' tk fd => ?_
  · show c < h'.objs.size
    rw [hsz5]
    simp only [List.mem_cons, List.not_mem_nil, or_false] at hc
    rcases hc with z | z | z | z | z | z | z <;> rw [z]
    · exact Nat.lt_succ_self _
    · exact Nat.add_lt_add_left (by decide) _
    · exact Nat.add_lt_add_left (by decide) _
    · exact Nat.lt_add_of_pos_right (by decide)
    · exact Nat.add_lt_add_left (by decide) _
    · exact Nat.lt_of_lt_of_le la (Nat.le_add_right _ _)
    · exact Nat.lt_of_lt_of_le lb (Nat.le_add_right _ _)
  · obtain ⟨f1, acc, cc, ts, f2, f3, f4, f5, f6⟩ := fd
    have e5 : h'.objs.size = s1.heap.objs.size + 5 := hsz5
    have old : ∀ c o, s1.heap.get? c = some o → h''.get? c = some o := fun c o g => by
      have lc := Heap.lt_size g
      refine f1 c o (fun hc => ?_) (Heap.get?_push_of_some _ (hk c o g))
      simp only [List.mem_cons, List.not_mem_nil, or_false] at hc
      have e5' : ({ s1 with heap := h' } : Shared).heap.objs.size = s1.heap.objs.size + 5 := e5
      rw [e5'] at hc
      rcases hc with z | z | z | z | z <;> rw [z] at lc <;> exact absurd lc (Nat.not_lt.mpr (by first | exact Nat.le_add_right _ _ | exact Nat.le_refl _))
    have tsz : ∀ t ∈ ts, s1.heap.objs.size + 6 ≤ t := fun t ht => by
      obtain ⟨j, hj⟩ := List.getElem?_of_mem ht
      have := (f6 j t hj).1
      have e5' : ({ s1 with heap := h' } : Shared).heap.objs.size = s1.heap.objs.size + 5 := e5
      rw [e5'] at this
      exact this
    have tn : ∀ c o, s1.heap.get? c = some o → c ∉ ts := fun c o g hc => by
      have h1 := Heap.lt_size g
      have h2 := tsz c hc
      exact absurd (Nat.lt_of_lt_of_le h1 (Nat.le_trans (Nat.le_add_right _ 6) h2)) (Nat.lt_irrefl _)
    have Hn : ∀ c u, H1 c = some u → c ∉ ts := fun c u g hc => by
      have h1 := (I1.hok c u g).lt
      have h2 := tsz c hc
      exact absurd (Nat.lt_of_lt_of_le h1 (Nat.le_trans (Nat.le_add_right _ 6) h2)) (Nat.lt_irrefl _)
    have keepH : ∀ c u, H1 c = some u → addT H1 ts its.toArray its2.toArray xs ys c = some u := fun c u g => by
      unfold addT
      rw [if_neg (Hn c u g)]
      exact g
    have atT : ∀ (j : Nat) (t : Addr) (x y : V), ts[j]? = some t → xs[j]? = some x → ys[j]? = some y → ∃ vx vy, its[j]? = some vx ∧ its2[j]? = some vy ∧ RelV x vx ∧ RelV y vy ∧ IsTupOf2 h'' t vx vy ∧ addT H1 ts its.toArray its2.toArray xs ys t = some (.frz { cls := .type "tuple", data := .seq #[vx, vy] } (.tup [x, y])) := fun j t x y ht hx hy => by
      obtain ⟨u, hu, ru⟩ := rv.get hx
      obtain ⟨u2, hu2, ru2⟩ := rv2.get hy
      obtain ⟨_, vx, vy, gx, gy, gt⟩ := f6 j t ht
      have q1 : vx = u := by
        have : its[j]? = some vx := by simpa using gx
        rw [hu] at this
        exact (Option.some.inj this).symm
      have q2 : vy = u2 := by
        have : its2[j]? = some vy := by simpa using gy
        rw [hu2] at this
        exact (Option.some.inj this).symm
      subst q1 q2
      refine ⟨vx, vy, hu, hu2, ru, ru2, gt, ?_⟩
      unfold addT
      rw [if_pos (List.mem_of_getElem? ht), idx_at f5 ht]
      have a1 : its.toArray.getD j .none = vx := by
        rw [Array.getD_eq_getD_getElem?, gx]; rfl
      have a2 : its2.toArray.getD j .none = vy := by
        rw [Array.getD_eq_getD_getElem?, gy]; rfl
      have a3 : xs.getD j .non = x := by rw [List.getD_eq_getElem?_getD, hx]; rfl
      have a4 : ys.getD j .non = y := by rw [List.getD_eq_getElem?_getD, hy]; rfl
      rw [a1, a2, a3, a4]
    have Sn : addT H1 ts its.toArray its2.toArray xs ys h'.objs.size = none := by
      unfold addT
      rw [if_neg (fun hc => by
        have := tsz _ hc
        rw [e5] at this
        exact absurd this (by exact Nat.not_succ_le_self _))]
      exact I1.hok.fresh (by rw [e5]; exact Nat.le_add_right _ _)
    have S1 : H1 h'.objs.size = none := I1.hok.fresh (by rw [e5]; exact Nat.le_add_right _ _)
    have hts : ts.length = ys.length := by rw [f4]; simp; omega
    refine ⟨.ref h'.objs.size, _, Inv.drained (ex := []) (out := ts.map V.ref) (acc := acc) (c := cc) I1 (H' := addT H1 ts its.toArray its2.toArray xs ys) (s' := { s1 with heap := h'', toks := tk }) (by rw [e5]; exact Nat.le_add_right _ _) (by simp; omega) f2 ?_ ExOk.nil rfl I1.bare ⟨fun c o g _ _ _ => old c o g, fun c o g _ _ _ => ⟨o.slots, old c o g⟩, fun c o g hn _ => ?_, fun c o g _ => ⟨o, old c o g⟩, fun c zs g => keepH c _ g, fun c o u g => keepH c _ g, fun c ps g => ⟨#[], by rw [keepH c _ g]; simp⟩⟩ (fun c u g => ?_) Sn, rfl, q ts _ _ hts (fun j t x y ht hx hy => ?_) keepH Sn S1⟩
    · rw [f3]
      clear f3 f4 f5 f6 tsz tn Hn keepH atT Sn hts
      induction ts with
      | nil => exact .nil
      | cons t ts ih => exact .cons rfl ih
    · unfold addT
      rw [if_neg (tn c o g)]
      exact hn
    · by_cases w : c ∈ ts
      · obtain ⟨j, hj⟩ := List.getElem?_of_mem w
        have hjl := (List.getElem?_eq_some_iff.mp hj).1
        obtain ⟨vx, vy, g1, g2, g3, g4, g5, g6⟩ := atT j c xs[j] (ys[j]'(by omega)) hj (List.getElem?_eq_getElem (by omega)) (List.getElem?_eq_getElem (by omega))
        rw [g6] at g
        cases g
        exact ⟨g5, by show 2 ≤ sizeLine; decide, [vx, vy], .cons g3 (.cons g4 .nil), ⟨_, g5, rfl, _, rfl⟩⟩
      · have g' : H1 c = some u := by
          unfold addT at g
          rw [if_neg w] at g
          exact g
        exact (I1.hok c u g').stay (fun d v _ z => old d v z) (fun d z => keepH d _ z) fun d zs z => keepH d _ z
    · obtain ⟨vx, vy, _, _, _, _, _, g6⟩ := atT j t x y ht hx hy
      exact ⟨_, rfl, g6⟩
theorem pe_listZip {X : Cx} {e e2 : Expr} {ta : TA} {p pos p2 pos2 : Pos} (hc : X.calm = true) (hg : Gl X "list") (hm : X.mg "list" = none) (hg2 : Gl X "zip") (hm2 : X.mg "zip" = none) (ha : PA X [e, e2] ta)
    (hs : starEach [e, e2] X.env = (false, eval e X.env) :: starEach [e2] X.env := by rfl) (hpl : (backTo pos2 (starEach [e2] X.env)).any (·.1) = false := by rfl)
    (na : starEach [.Call (.Name "zip" p2) [e, e2] [] pos2] X.env = (false, eval (.Call (.Name "zip" p2) [e, e2] [] pos2) X.env) :: starEach [] X.env := by rfl) :
    PE X (.Call (.Name "list" p) [.Call (.Name "zip" p2) [e, e2] [] pos2] [] pos) (tLstZip X.K ta) := by
  refine ⟨fun pins s σ H Q I h => ?_⟩
  refine Call_ (ld_blt I hg hm boot_list (PyProof.Rows.callWith_type1 (PyProof.Rows.args_cons ?_ na) na))
  refine Call_ (ld_blt I hg2 hm2 PyProof.Rows.boot_zip (PyProof.Rows.callWith_type1 (thn (ha.run pos2 pins s σ H _ I h) fun us s1 ⟨vs, H1, I1, r1, q1⟩ => ?_) hs hpl))
  obtain ⟨a, b, xs, ys, ex, hq, hlen, hsz, q⟩ := q1
  subst ex
  cases r1 with
  | cons r rr =>
    cases rr with
    | cons r' rr =>
      cases rr
      cases r
      cases r'
      rcases hq with ⟨hqx, hqy⟩ | ⟨hqx, hqy⟩
      · obtain ⟨its, rv, p1, _⟩ := I1.tuple hqx
        obtain ⟨its2, rv2, p3, _⟩ := I1.tuple hqy
        have la : a < s1.heap.objs.size := let ⟨_, w, _⟩ := p1; Heap.lt_size w
        have lb : b < s1.heap.objs.size := let ⟨_, w, _⟩ := p3; Heap.lt_size w
        refine RZ.call_zipT (show s1.heap.IsTuple a its.toArray from p1) (show s1.heap.IsTuple b its2.toArray from p3) fun h' hz hTI hTO h1 h2 hsz5 hk => PyProof.Rows.args_nil ?_
        exact listZip_tail I1 rv rv2 hlen hsz la lb (I1.ok.hd hc) (fun A' hh' => Draws.tuple hh' _ a (Nat.ne_of_lt la) its.toArray) (fun A' hh' => Draws.tuple hh' _ b (Nat.ne_of_lt (Nat.lt_succ_of_lt lb)) its2.toArray) hz hTI hTO ⟨h1, (show s1.heap.IsTuple a its.toArray from p1).at fun o e => hk a o e⟩ ⟨h2, (show s1.heap.IsTuple b its2.toArray from p3).at fun o e => hk b o e⟩ hsz5 hk q
      · obtain ⟨its, rv, p1, _⟩ := I1.list hqx
        obtain ⟨its2, rv2, p3, _⟩ := I1.list hqy
        have la : a < s1.heap.objs.size := let ⟨_, w, _⟩ := p1.isList; Heap.lt_size w
        have lb : b < s1.heap.objs.size := let ⟨_, w, _⟩ := p3.isList; Heap.lt_size w
        refine call_zip_2 p1.isList p3.isList fun h' hz hTI hTO h1 h2 hsz5 hk => PyProof.Rows.args_nil ?_
        exact listZip_tail I1 rv rv2 hlen hsz la lb (I1.ok.hd hc) (fun A' hh' => Draws.list hh' _ a (Nat.ne_of_lt la) its.toArray) (fun A' hh' => Draws.list hh' _ b (Nat.ne_of_lt (Nat.lt_succ_of_lt lb)) its2.toArray) hz hTI hTO ⟨h1, p1.isList.at fun o e => hk a o e⟩ ⟨h2, p3.isList.at fun o e => hk b o e⟩ hsz5 hk q
section
variable {X : Cx} {K : PySem.W.Frag} (hK : X.K = K)
include hK
theorem k_listZip {e e2 : Expr} {ta : TA} {p pos p2 pos2 : Pos} (hc : X.calm = true) (hg : Gl X "list") (hm : X.mg "list" = none) (hg2 : Gl X "zip") (hm2 : X.mg "zip" = none) (ha : PA X [e, e2] ta)
    (hs : starEach [e, e2] X.env = (false, eval e X.env) :: starEach [e2] X.env := by rfl) (hpl : (backTo pos2 (starEach [e2] X.env)).any (·.1) = false := by rfl)
    (na : starEach [.Call (.Name "zip" p2) [e, e2] [] pos2] X.env = (false, eval (.Call (.Name "zip" p2) [e, e2] [] pos2) X.env) :: starEach [] X.env := by rfl) :
    PE X (.Call (.Name "list" p) [.Call (.Name "zip" p2) [e, e2] [] pos2] [] pos) (tLstZip K ta) := hK ▸ pe_listZip hc hg hm hg2 hm2 ha hs hpl na
end
section
variable {c : Ct} {H H' : Hp} {Γ : List (Option Rs)} {tr : TA} {ds es : List PyData} {kv : Bool}
theorem bo_of : ∀ {vs : List V} {ds : List PyData}, vs.length = ds.length → (∀ (j : Nat) (v : V) (d : PyData), vs[j]? = some v → ds[j]? = some d → Bo c H v d) → BoAll c H vs ds
  | [], [], _, _ => .nil
  | v :: vs, d :: ds, hl, h => .cons (h 0 v d rfl rfl) (bo_of (by simpa using hl) fun j v d a b => h (j + 1) v d (by simpa using a) (by simpa using b))
  | [], _ :: _, hl, _ => by simp at hl
  | _ :: _, [], hl, _ => by simp at hl
def zipTs (ds es : List PyData) : List PyData := (ds.zip es).map fun p => .tuple [p.1, p.2]
theorem zipTs_flat (hd : flatAll ds = true) (he : flatAll es = true) : flatAll (zipTs ds es) = true := flatAll_mem fun d hd' => by
  obtain ⟨p, hp, rfl⟩ := List.mem_map.mp hd'
  have h1 := flatAll_one hd (List.of_mem_zip hp).1
  have h2 := flatAll_one he (List.of_mem_zip hp).2
  simp [flatD, flatAll, h1, h2]
theorem e_listZip (h : EvA c tr Γ true [.tuple ds, .tuple es]) (hd : flatAll ds = true) (he : flatAll es = true) (hl : es.length = ds.length ∨ es.length + 1 = ds.length) (hs : ds.length ≤ 1000000) : Ev c (tLstZip c.K tr) Γ .o (.list (zipTs ds es)) := fun H0 O H σ e Q q =>
  h H0 O H σ e _ fun vs H1 r s => by
    obtain ⟨va, vb, rfl, ba, bb⟩ := s.two
    have ba' : Bo c H1 va (.tuple ds) := Bo.same mns_same ba
    have bb' : Bo c H1 vb (.tuple es) := Bo.same mns_same bb
    obtain ⟨a, xs, rfl, sa, al⟩ := ba'.tup'
    obtain ⟨b, ys, rfl, sb, bl⟩ := bb'.tup'
    have l1 := al.len
    have l2 := bl.len
    refine ⟨a, b, xs, ys, rfl, .inl ⟨sa.sq, sb.sq⟩, by omega, by rw [l1]; exact sizeOk hs, fun ts H' p h1 h2 h3 h4 h5 => ?_⟩
    have sm1 : Same H1 H' := fun b u z => h3 b u z
    have sm2 : Same H' (upd H' p (.lst (ts.map V.ref))) := fun b u z => by rw [upd_ne (ne_of_none z h4)]; exact z
    refine q _ _ (r.tr ((Rr.same sm1).tr (Rr.same sm2))) ⟨[p], .lst upd_same (FoAll.leaves (zipTs_flat hd he) (bo_of (by simp [zipTs]; omega) fun j v d hv hd' => ?_)), by simp, fun a ha => ?_⟩
    · rw [List.getElem?_map] at hv
      obtain ⟨t, ht, rfl⟩ := Option.map_eq_some_iff.mp hv
      have hj := (List.getElem?_eq_some_iff.mp ht).1
      have hx : xs[j]? = some xs[j] := List.getElem?_eq_getElem (by omega)
      have hy : ys[j]? = some (ys[j]'(by omega)) := List.getElem?_eq_getElem (by omega)
      obtain ⟨o, ho, ht'⟩ := h2 j t _ _ ht hx hy
      obtain ⟨dx, gx, bx⟩ := al.get hx
      obtain ⟨dy, gy, bY⟩ := bl.get hy
      have ed : d = .tuple [dx, dy] := by
        unfold zipTs at hd'
        rw [List.getElem?_map] at hd'
        obtain ⟨pq, hpq, e1⟩ := Option.map_eq_some_iff.mp hd'
        have := List.getElem?_zip_eq_some.mp hpq
        rw [gx, gy] at this
        rw [← e1]
        have h1 := Option.some.inj this.1
        have h2 := Option.some.inj this.2
        rw [h1, h2]
      subst ed
      exact .tup (.inl ⟨o, ho, sm2 _ _ ht'⟩) (.cons ((bx.same sm1).same sm2) (.cons ((bY.same sm1).same sm2) .nil))
    · cases List.mem_singleton.mp ha
      exact r.back e.jH h5
theorem e_listZipL (h : EvA c tr Γ kv [.list ds, .list es]) (hd : flatAll ds = true) (he : flatAll es = true) (hl : es.length = ds.length ∨ es.length + 1 = ds.length) (hs : ds.length ≤ 1000000) : Ev c (tLstZip c.K tr) Γ .o (.list (zipTs ds es)) := fun H0 O H σ e Q q =>
  h H0 O H σ e _ fun vs H1 r s => by
    have s' : BoAll c H1 vs [.list ds, .list es] := by
      cases kv with
      | true => exact BoAll.same mns_same (BoAll.vm s)
      | false => exact s
    obtain ⟨va, vb, rfl, ba', bb'⟩ := s'.two
    obtain ⟨a, xs, rfl, _, sa, al⟩ := ba'.lst'
    obtain ⟨b, ys, rfl, _, sb, bl⟩ := bb'.lst'
    have l1 := al.len
    have l2 := bl.len
    refine ⟨a, b, xs, ys, rfl, .inr ⟨sa, sb⟩, by omega, by rw [l1]; exact sizeOk hs, fun ts H' p h1 h2 h3 h4 h5 => ?_⟩
    have sm1 : Same H1 H' := fun b u z => h3 b u z
    have sm2 : Same H' (upd H' p (.lst (ts.map V.ref))) := fun b u z => by rw [upd_ne (ne_of_none z h4)]; exact z
    refine q _ _ (r.tr ((Rr.same sm1).tr (Rr.same sm2))) ⟨[p], .lst upd_same (FoAll.leaves (zipTs_flat hd he) (bo_of (by simp [zipTs]; omega) fun j v d hv hd' => ?_)), by simp, fun a ha => ?_⟩
    · rw [List.getElem?_map] at hv
      obtain ⟨t, ht, rfl⟩ := Option.map_eq_some_iff.mp hv
      have hj := (List.getElem?_eq_some_iff.mp ht).1
      have hx : xs[j]? = some xs[j] := List.getElem?_eq_getElem (by omega)
      have hy : ys[j]? = some (ys[j]'(by omega)) := List.getElem?_eq_getElem (by omega)
      obtain ⟨o, ho, ht'⟩ := h2 j t _ _ ht hx hy
      obtain ⟨dx, gx, bx⟩ := al.get hx
      obtain ⟨dy, gy, bY⟩ := bl.get hy
      have ed : d = .tuple [dx, dy] := by
        unfold zipTs at hd'
        rw [List.getElem?_map] at hd'
        obtain ⟨pq, hpq, e1⟩ := Option.map_eq_some_iff.mp hd'
        have := List.getElem?_zip_eq_some.mp hpq
        rw [gx, gy] at this
        rw [← e1]
        have h1 := Option.some.inj this.1
        have h2 := Option.some.inj this.2
        rw [h1, h2]
      subst ed
      exact .tup (.inl ⟨o, ho, sm2 _ _ ht'⟩) (.cons ((bx.same sm1).same sm2) (.cons ((bY.same sm1).same sm2) .nil))
    · cases List.mem_singleton.mp ha
      exact r.back e.jH h5
end
end Lm

/-! slices of tuples or lists, a range kept in a name, enumerate of a new list -/
namespace Lm
open PySem PySem.Spec PyProof.Rows L2
def rSlU (K : PySem.W.Frag) : V → Option Int → Option Int → Hp → VK → Prop := fun x lo hi H Q => rSlN K x lo hi H Q ∨ rSlL K x lo hi H Q
/-- a new range object -/
def rRng1 : List V → Hp → VK → Prop := fun vs H Q => ∃ j : Int, vs = [V.int j] ∧ ∀ p, H p = none → Q (.ref p) (upd H p (.rng 0 j))
/-- a name that holds a range, walked -/
def iRngN (ta : TE) : TI := fun σ H R => ta σ H fun x H1 => ∃ (a : Addr) (lo hi : Int), x = .ref a ∧ H1 a = some (.rng lo hi) ∧ (-(2 ^ 62) ≤ lo ∧ lo < 2 ^ 62 ∧ -(2 ^ 62) ≤ hi ∧ hi < 2 ^ 62) ∧ R (Itr lo (hi - lo).toNat) H1
section
variable {X : Cx} {tg : Expr}
theorem cr_rng1 : CallR X (.type "range") rRng1 := by
  intro pins s σ H vs us Q I r h
  obtain ⟨j, rfl, q⟩ := h
  cases r with
  | cons ra rb =>
    cases rb
    obtain ⟨t, rfl⟩ := ra
    refine call_range_1 ⟨.ref s.heap.objs.size, upd H s.heap.objs.size (.rng 0 j), I.laid (t' := s.toks + 1 + 1) (fun b o e => Heap.get?_push_of_some _ e) (Nat.le_refl _) ?_, rfl, q _ (I.hok.fresh (Nat.le_refl _))⟩
    exact ⟨s.toks, t, s.toks + 1, Heap.get?_push_size _ rfl⟩
theorem pi_rngN {e : Expr} {ta : TE} (he : PE X e ta) : PI X tg e (iRngN ta) := by
  refine ⟨fun pins s σ H R I h => ?_⟩
  refine thn (he.run pins s σ H _ I h) fun v s1 ⟨x, H1, I1, r1, q1⟩ => ?_
  obtain ⟨a, lo, hi, rfl, ha, ⟨b1, b2, b3, b4⟩, q⟩ := q1
  cases r1
  obtain ⟨t, u, w, hr⟩ := I1.hok a _ ha
  refine wpAny_pyIter_range hr (small_one b1 b2 b3 b4) ?_
  refine ⟨s1.heap.objs.size, [s1.heap.objs.size], _, _, H1, rfl, I1.kept (t' := s1.toks) fun b o e => Heap.get?_push_of_some _ e, turn_range _ lo (hi - lo).toNat, ?_, fun b hb => ?_, q⟩
  · have n1 : lo + ((0 : Nat) : Int) * 1 = lo := by simp
    have n2 : (((hi - lo).toNat : Nat) : Int) - ((0 : Nat) : Int) = Builtin.Range.rangeSize lo hi 1 := by rw [rangeSize_one]; split <;> omega
    rw [n1, n2]
    exact Heap.get?_push_size _ rfl
  · cases List.mem_singleton.mp hb
    exact I1.fpOk (Nat.le_refl _) (I1.hok.fresh (Nat.le_refl _))
end
section
variable {X : Cx} {K : PySem.W.Frag} (hK : X.K = K)
include hK
theorem k_slU : SlR X (rSlU K) := by
  subst hK
  intro pins s σ H x v vl vu lo hi sl Q I rx hs pl pu h
  rcases h with h | h
  · exact sl_tupN pins s σ H x v vl vu lo hi sl Q I rx hs pl pu h
  · exact sl_list pins s σ H x v vl vu lo hi sl Q I rx hs pl pu h
end
section
variable {c : Ct} {H H' H0 H1 H2 H3 : Hp} {O : List Addr} {Γ Γ' Γ1 : List (Option Rs)}
variable {te ta tb tx : TE} {tl th : TO} {k ka kb : Kd} {d x y z : PyData} {i j : Int} {a b : Bool} {ds es : List PyData} {u : TS} {P : Out → Prop} {n : Nat} {kv : Bool} {tr : TA}
theorem e_slU {lo hi : Option Int} (h : Ev c te Γ .v (.tuple ds)) (h1 : Eo c tl Γ lo) (h2 : Eo c th Γ hi) : Ev c (tSl (rSlU c.K) te tl th) Γ .v (.tuple (cutD ds lo hi)) := fun H0 O H σ e Q q => by
  have := e_sl h h1 h2 H0 O H σ e Q q
  revert this
  unfold tSl rSlU
  intro w
  refine h H0 O H σ e _ fun v H1 r1 s1 => h1 H0 O H1 σ (e.on r1) _ fun H2 r2 => h2 H0 O H2 σ ((e.on r1).on r2) _ fun H3 r3 => .inl ?_
  have r : Rr c H H3 := (r1.tr r2).tr r3
  obtain ⟨p, xs, rfl, s, al⟩ := Bo.tup' (Res.on e r1 (r2.tr r3) s1)
  refine ⟨p, xs, rfl, (sqT_same mns_same s).sq, fun w => ?_, fun _ => newTk (c := c) fun p' H4 hp sm tp => ?_⟩
  · refine q (.ref p) H3 r ?_
    have n1 : cutD ds lo hi = ds := by
      unfold cutD
      rw [← al.len, w.1, w.2, al.len]
      simp
    rw [n1]
    exact .tup s al
  · have r4 : Rr c H H4 := r.tr (Rr.same sm)
    exact q _ H4 r4 (.tup (tpN_mns e r4 tp) (al.cut.mono (e.on r).j ((Rr.same sm : Rr c H3 H4).mns (e.on r).j e.okO)))
/-- a slice of a list: a new list -/
theorem e_slL {lo hi : Option Int} (h : Ev c te Γ k (.list ds)) (h1 : Eo c tl Γ lo) (h2 : Eo c th Γ hi) (hf : flatAll ds = true) : Ev c (tSl (rSlU c.K) te tl th) Γ .o (.list (cutD ds lo hi)) := fun H0 O H σ e Q q =>
  h H0 O H σ e _ fun v H1 r1 s1 => h1 H0 O H1 σ (e.on r1) _ fun H2 r2 => h2 H0 O H2 σ ((e.on r1).on r2) _ fun H3 r3 => .inr <| by
    have r : Rr c H H3 := (r1.tr r2).tr r3
    obtain ⟨p, xs, rfl, _, s, al⟩ := (Res.bo e (Res.on e r1 (r2.tr r3) s1)).lst'
    refine ⟨p, xs, rfl, s, fun p' hp => ?_⟩
    have sm : Same H3 (upd H3 p' (.lst (cutV xs lo hi))) := fun b u z => by rw [upd_ne (ne_of_none z hp)]; exact z
    refine q _ _ (r.tr (Rr.same sm)) ⟨[p'], .lst upd_same (FoAll.leaves ?_ (al.cut.same sm)), by simp, fun b hb => ?_⟩
    · exact flatAll_mem fun d hd => flatAll_one hf (List.mem_of_mem_drop (List.mem_of_mem_take hd))
    · cases List.mem_singleton.mp hb
      exact r.back e.jH hp
theorem i_enumLO (h : Ev c te Γ k (.list ds)) (hk : k ≠ .b) : EvI c (iEnumA c.K (tCons te tNil)) Γ true (enumI ds) := fun H0 O H σ e R q =>
  h H0 O H σ e _ fun v H1 r s => by
    obtain ⟨p, xs, rfl, kp, sl, al⟩ := (Res.frozen e r s hk).lst'
    exact ⟨p, xs, rfl, .inl ⟨mns_same.seq sl, q _ H1 r (enum_core (e.on r).j (walk_enum.mono (fun H h => h.lst kp sl) fun _ _ _ _ _ _ y => y) al (.inl rfl))⟩⟩
/-- n = range(..); return tuple([.. for v in n]) -/
theorem s_rngRet {m : Int} {g : TG} {tt : TT} {vs : List Nat} {P : Out → Prop}
    (h : Ev c te Γ k (.int m)) (h1 : m ≤ 1000000) (h2 : -1000000 ≤ m) (hn : n < Γ.length)
    (hr : ∀ y : V, Ev c (tCB (rTuple c.K) (tCons (tLc (iRng1 (tCons (tC (.int m)) tNil)) g tt tx vs) tNil)) (Γ.set n (some (.r y))) .v d) (hfl : flatD d = true) (hp : P (.rt .v d)) :
    Sd c (tSeq (tAsg (tCB rRng1 (tCons te tNil)) (gName n)) (tRet (tCB (rTuple c.K) (tCons (tLc (iRngN (tVar n)) g tt tx vs) tNil)))) Γ P := fun H0 O H σ D e s =>
  h H0 O H σ e _ fun v H1 r1 s1 => by
    refine ⟨m, by rw [(Res.bo e s1).int'], fun p hp' => ?_⟩
    have sm : Same H1 (upd H1 p (.rng 0 m)) := fun b u z => by rw [upd_ne (ne_of_none z hp')]; exact z
    have e2 : Env c H0 O (upd H1 p (.rng 0 m)) (σ.set n (some (.ref p))) (Γ.set n (some (.r (.ref p)))) := (e.on (r1.tr (Rr.same sm))).setR
    have hs : (σ.set n (some (V.ref p)))[n]? = some (some (V.ref p)) := by
      rw [List.getElem?_set_self]
      rw [e.len]; exact hn
    have hx := s_ret (P := P) (hr (.ref p)) (.inr ⟨rfl, hfl⟩) hp H0 O _ _ D e2 s
    obtain ⟨j, ej, _, _, hx⟩ := hx
    cases ej
    exact ⟨_, hs, p, 0, m, rfl, upd_same, ⟨by omega, by omega, by omega, by omega⟩, by simpa using hx⟩
end
end Lm

/-! series of allocations: their steps, losses, turns -/
namespace Lm
open PySem PySem.Spec PyProof.Rows L2
def prs {α : Type} (ns : List α) : List (α × α) := ns.zip (ns.drop 1)
def neg0 (p : Int × Int) : Int := if 0 > p.1 - p.2 then 0 else p.1 - p.2
def los (l : List (Int × Int)) : Int := (l.map neg0).sum
def gai (l : List (Int × Int)) : Int := (l.map fun p => neg0 (p.2, p.1)).sum
theorem trI_los (a b : List Int) : trI a b = los (a.zip b) := rfl
theorem los_cons (p : Int × Int) (l : List (Int × Int)) : los (p :: l) = neg0 p + los l := by simp [los]
theorem gai_cons (p : Int × Int) (l : List (Int × Int)) : gai (p :: l) = neg0 (p.2, p.1) + gai l := by simp [gai]
theorem neg0_nn (p : Int × Int) : 0 ≤ neg0 p := by unfold neg0; split <;> omega
theorem los_nn : ∀ l : List (Int × Int), 0 ≤ los l
  | [] => by simp [los]
  | p :: l => by rw [los_cons]; have := neg0_nn p; have := los_nn l; omega
theorem gai_nn : ∀ l : List (Int × Int), 0 ≤ gai l
  | [] => by simp [gai]
  | p :: l => by rw [gai_cons]; have := neg0_nn (p.2, p.1); have := gai_nn l; omega
/-- grown, shrunk -/
def turnF : Bool → Bool → Nat → List (Int × Int) → Option Nat
  | _, _, _, [] => none
  | g, s, k, p :: l => if (decide (p.1 < p.2) && s) || (decide (p.2 < p.1) && g) then some k else turnF (g || decide (p.1 < p.2)) (s || decide (p.2 < p.1)) (k + 1) l
theorem turnF_none : ∀ (l : List (Int × Int)) (g s : Bool) (k : Nat), (g && s) = false → (turnF g s k l = none ↔ ¬ ((g = true ∨ 0 < gai l) ∧ (s = true ∨ 0 < los l)))
  | [], g, s, k, h => by
    simp only [turnF, gai, los, List.map_nil, List.sum_nil]
    cases g <;> cases s <;> simp_all
  | p :: l, g, s, k, h => by
    have n1 := gai_nn l
    have n2 := los_nn l
    unfold turnF
    rw [gai_cons, los_cons]
    by_cases h1 : p.1 < p.2
    · have h2 : ¬ p.2 < p.1 := by omega
      have e1 : neg0 p = 0 := by unfold neg0; split <;> omega
      have e2 : 0 < neg0 (p.2, p.1) := by unfold neg0; simp only; split <;> omega
      cases s with
      | true =>
        simp only [h1, h2, decide_true, decide_false, Bool.true_and, Bool.false_and, Bool.or_false, if_true]
        simp
        omega
      | false =>
        have ih := turnF_none l true false (k + 1) rfl
        simp only [h1, h2, decide_true, decide_false, Bool.true_and, Bool.false_and, Bool.or_false, Bool.or_true, Bool.false_eq_true, if_false]
        rw [ih, e1]
        constructor
        · rintro w ⟨_, z⟩
          exact w ⟨.inl rfl, .inr (z.elim (fun z => by simp at z) fun z => by omega)⟩
        · rintro w ⟨_, z⟩
          exact w ⟨.inr (by omega), .inr (z.elim (fun z => by simp at z) fun z => by omega)⟩
    · by_cases h2 : p.2 < p.1
      · have e1 : 0 < neg0 p := by unfold neg0; split <;> omega
        have e2 : neg0 (p.2, p.1) = 0 := by unfold neg0; simp only; split <;> omega
        cases g with
        | true =>
          simp only [h1, h2, decide_true, decide_false, Bool.true_and, Bool.false_and, Bool.false_or, if_true]
          simp
          omega
        | false =>
          have ih := turnF_none l false true (k + 1) rfl
          simp only [h1, h2, decide_true, decide_false, Bool.true_and, Bool.false_and, Bool.and_false, Bool.or_false, Bool.or_true, Bool.false_eq_true, if_false]
          rw [ih, e2]
          constructor
          · rintro w ⟨z, _⟩
            exact w ⟨.inr (z.elim (fun z => by simp at z) fun z => by omega), .inl rfl⟩
          · rintro w ⟨z, _⟩
            exact w ⟨.inr (z.elim (fun z => by simp at z) fun z => by omega), .inr (by omega)⟩
      · have e1 : neg0 p = 0 := by unfold neg0; split <;> omega
        have e2 : neg0 (p.2, p.1) = 0 := by unfold neg0; simp only; split <;> omega
        simp only [h1, h2, decide_false, Bool.false_and, Bool.or_false, Bool.false_eq_true, if_false]
        rw [turnF_none l g s (k + 1) h, e1, e2, Int.zero_add, Int.zero_add]
theorem prs_cons2 {α : Type} (x y : α) (r : List α) : prs (x :: y :: r) = (x, y) :: prs (y :: r) := by simp [prs]
theorem los_gai : ∀ (x : Int) (r : List Int), los (prs (x :: r)) - gai (prs (x :: r)) = x - (x :: r).getD r.length 0
  | x, [] => by simp [prs, los, gai]
  | x, y :: r => by
    rw [prs_cons2, los_cons, gai_cons]
    have ih := los_gai y r
    have e1 : (x :: y :: r).getD (y :: r).length 0 = (y :: r).getD r.length 0 := by simp
    rw [e1]
    have : neg0 (x, y) - neg0 (y, x) = x - y := by unfold neg0; simp only; split <;> split <;> omega
    show neg0 (x, y) + los (prs (y :: r)) - (neg0 (y, x) + gai (prs (y :: r))) = _
    omega
def colI (A : List (List Int)) (i : Nat) : List Int := A.map fun a => a.getD i 0
def turnC (A : List (List Int)) (i : Nat) : Option Nat := turnF false false 0 (prs (colI A i))
def losC (A : List (List Int)) (i : Nat) : Int := los (prs (colI A i))
def farC (A : List (List Int)) (i : Nat) : Int := neg0 ((A.getD 0 []).getD i 0, (A.getD (A.length - 1) []).getD i 0)
theorem mapD {L : List (List Int)} {f : List Int → Int} {j : Nat} (h : j < L.length) : (L.map f).getD j 0 = f (L.getD j []) := by
  simp [List.getD_eq_getElem?_getD, h]
theorem sum_nil0 : ∀ n : Nat, ((List.range n).map fun _ => (0 : Int)).sum = 0
  | 0 => rfl
  | n + 1 => by rw [List.range_succ, List.map_append, List.sum_append, sum_nil0 n]; rfl
theorem col_far {A : List (List Int)} {i : Nat} (h : 1 ≤ A.length) : farC A i ≤ losC A i ∧ (farC A i = losC A i ↔ turnC A i = none) := by
  cases A with
  | nil => simp at h
  | cons a A =>
    have lg := los_gai (a.getD i 0) (A.map fun a => a.getD i 0)
    have e0 : colI (a :: A) i = a.getD i 0 :: A.map fun a => a.getD i 0 := rfl
    have e1 : ((a :: A).getD ((a :: A).length - 1) []).getD i 0 = (a.getD i 0 :: A.map fun a => a.getD i 0).getD (A.map fun a => a.getD i 0).length 0 := by
      have : (a.getD i 0 :: A.map fun a => a.getD i 0) = (a :: A).map fun a => a.getD i 0 := rfl
      rw [this, mapD (by simp)]
      simp
    have e2 : farC (a :: A) i = neg0 (a.getD i 0, (a.getD i 0 :: A.map fun a => a.getD i 0).getD (A.map fun a => a.getD i 0).length 0) := by
      unfold farC
      rw [e1]
      rfl
    have n1 := los_nn (prs (colI (a :: A) i))
    have n2 := gai_nn (prs (colI (a :: A) i))
    rw [← e0] at lg
    unfold turnC losC
    rw [turnF_none _ _ _ _ rfl, e2]
    rw [← e0]
    unfold neg0
    simp only [Bool.false_eq_true, false_or]
    constructor
    · split <;> omega
    · split <;> constructor <;> intro w <;> omega
theorem sum_cmp {α : Type} {f g : α → Int} : ∀ {l : List α}, (∀ i ∈ l, f i ≤ g i) → (l.map f).sum ≤ (l.map g).sum ∧ ((l.map f).sum = (l.map g).sum ↔ ∀ i ∈ l, f i = g i)
  | [], _ => by simp
  | a :: l, h => by
    obtain ⟨h1, h2⟩ := sum_cmp (l := l) fun i hi => h i (List.mem_cons_of_mem _ hi)
    have h0 := h a (by simp)
    simp only [List.map_cons, List.sum_cons, List.forall_mem_cons]
    refine ⟨by omega, ?_⟩
    constructor
    · intro w
      exact ⟨by omega, h2.mp (by omega)⟩
    · rintro ⟨w1, w2⟩
      rw [w1, h2.mpr w2]
theorem sum_plus {α : Type} {f g : α → Int} : ∀ {l : List α}, (l.map f).sum + (l.map g).sum = (l.map fun i => f i + g i).sum
  | [] => by simp
  | a :: l => by
    have := sum_plus (f := f) (g := g) (l := l)
    simp only [List.map_cons, List.sum_cons]
    omega
theorem zip_rng {a b : List Int} {n : Nat} (ha : a.length = n) (hb : b.length = n) : a.zip b = (List.range n).map fun i => (a.getD i 0, b.getD i 0) := by
  apply List.ext_getElem
  · simp [ha, hb]
  · intro i h1 h2
    have i1 : i < a.length := by simp [List.length_zip] at h1; omega
    have i2 : i < b.length := by simp [List.length_zip] at h1; omega
    simp [List.getD_eq_getElem?_getD, i1, i2]
theorem trI_rng {a b : List Int} {n : Nat} (ha : a.length = n) (hb : b.length = n) : trI a b = ((List.range n).map fun i => neg0 (a.getD i 0, b.getD i 0)).sum := by
  rw [trI_los, zip_rng ha hb]
  unfold los
  rw [List.map_map]
  rfl
def totA (A : List (List Int)) : Int := ((prs A).map fun p => trI p.1 p.2).sum
theorem tot_swap {n : Nat} : ∀ {L : List (List Int × List Int)}, (∀ p ∈ L, p.1.length = n ∧ p.2.length = n) → (L.map fun p => trI p.1 p.2).sum = ((List.range n).map fun i => los (L.map fun p => (p.1.getD i 0, p.2.getD i 0))).sum
  | [], _ => by
    simp only [List.map_nil, List.sum_nil, los]
    exact (sum_nil0 n).symm
  | p :: L, h => by
    have h0 := h p (by simp)
    rw [List.map_cons, List.sum_cons, tot_swap (L := L) fun q hq => h q (List.mem_cons_of_mem _ hq), trI_rng h0.1 h0.2, sum_plus]
    congr 1
theorem prs_col (A : List (List Int)) (i : Nat) : prs (colI A i) = (prs A).map fun p => (p.1.getD i 0, p.2.getD i 0) := by
  unfold prs colI
  rw [← List.map_drop, List.zip_map]
  rfl
structure Ser (A : List (List Int)) (v b : Int) : Prop where
  l1 : 1 ≤ A.length
  l2 : A.length ≤ 10
  alc : ∀ a ∈ A, Alc a v b
  v1 : 1 ≤ v
  v5 : v ≤ 5
  b20 : b ≤ 20
variable {A : List (List Int)} {v b : Int}
theorem Ser.len (h : Ser A v b) : ∀ a ∈ A, a.length = v.toNat := fun a ha => by have := (h.alc a ha).len; omega
theorem Ser.at (h : Ser A v b) {i : Nat} (hi : i < A.length) : Alc (A.getD i []) v b := by
  have : A.getD i [] = A[i] := by simp [List.getD_eq_getElem?_getD, hi]
  rw [this]
  exact h.alc _ (List.getElem_mem hi)
theorem prs_mem {p : List Int × List Int} (h : p ∈ prs A) : p.1 ∈ A ∧ p.2 ∈ A := by
  have := List.of_mem_zip h
  exact ⟨this.1, List.mem_of_mem_drop this.2⟩
theorem Ser.tot (h : Ser A v b) : totA A = ((List.range v.toNat).map fun i => losC A i).sum := by
  unfold totA
  rw [tot_swap (n := v.toNat) fun p hp => ⟨h.len _ (prs_mem hp).1, h.len _ (prs_mem hp).2⟩]
  congr 1
  apply List.map_congr_left
  intro i _
  unfold losC
  rw [prs_col]
def farA (A : List (List Int)) : Int := trI (A.getD 0 []) (A.getD (A.length - 1) [])
theorem Ser.far (h : Ser A v b) : farA A = ((List.range v.toNat).map fun i => farC A i).sum := by
  have := h.l1
  unfold farA
  rw [trI_rng (n := v.toNat) (by have := (h.at (i := 0) (by omega)).len; omega) (by have := (h.at (i := A.length - 1) (by omega)).len; omega)]
  rfl
def fstT (A : List (List Int)) (n : Nat) : Option (Nat × Nat) := (List.range n).findSome? fun i => (turnC A i).map fun k => (i, k)
theorem fstT_succ (A : List (List Int)) (n : Nat) : fstT A (n + 1) = (fstT A n).or ((turnC A n).map fun k => (n, k)) := by
  unfold fstT
  rw [List.range_succ, List.findSome?_append]
  simp
theorem Ser.end (h : Ser A v b) : farA A ≤ totA A ∧ (farA A = totA A ↔ fstT A v.toNat = none) := by
  rw [h.tot, h.far]
  obtain ⟨h1, h2⟩ := sum_cmp (f := fun i => farC A i) (g := fun i => losC A i) (l := List.range v.toNat) fun i _ => (col_far h.l1).1
  refine ⟨h1, h2.trans ?_⟩
  unfold fstT
  rw [List.findSome?_eq_none_iff]
  constructor
  · intro w i hi
    rw [(col_far h.l1).2.mp (w i hi)]
    rfl
  · intro w i hi
    have := w i hi
    exact (col_far h.l1).2.mpr (by simpa using this)
def ovr (A : List (List Int)) (n : Nat) : Option Nat := (List.range n).find? fun i => decide ((A.getD 0 []).getD i 0 < losC A i)
theorem ovr_succ (A : List (List Int)) (n : Nat) : ovr A (n + 1) = (ovr A n).or (if (A.getD 0 []).getD n 0 < losC A n then some n else none) := by
  unfold ovr
  rw [List.range_succ, List.find?_append]
  congr 1
  by_cases h : (A.getD 0 []).getD n 0 < losC A n
  · rw [if_pos h, List.find?_cons, decide_eq_true h]
  · rw [if_neg h, List.find?_cons, decide_eq_false h]
    rfl
def natD : Option Nat → PyData
  | none => .none
  | some n => .int (n : Int)
def twoD : Option (Nat × Nat) → PyData
  | none => .none
  | some p => .tuple [.int (p.1 : Int), .int (p.2 : Int)]
end Lm

/-! series: the promises -/
namespace Lm
open PySem PySem.Spec PyProof.Rows L2
section
variable {c : Ct} {H H' H0 H1 H2 H3 : Hp} {O : List Addr} {Γ Γ' Γ1 : List (Option Rs)}
variable {te ta tb tx : TE} {k ka kb : Kd} {d x y z : PyData} {ds es : List PyData} {u : TS} {P : Out → Prop} {n : Nat}
theorem s_appN {Pd : PyData → Prop} (hx : Γ[n]? = some (some (.o (.list ds)))) (h : EvN c te Γ k Pd) (hf : ∀ d, Pd d → flatD d = true) (hl : ds.length < 1000000) (p : ∀ d, Pd d → P (.nx (Γ.set n (some (.o (.list (ds ++ [d]))))))) : Sd c (tDrop (tBM c.K "list" rAppend (tVar n) (tCons te tNil))) Γ P := fun H0 O H σ D e s => by
  have gen : ∀ d, Env c H0 O H σ Γ → ∃ q, σ[n]? = some (some (.ref q)) ∧ ∃ xs, H q = some (.lst xs) := fun d e => by
    obtain ⟨q, xs, f, hq, hp, _⟩ := e.write (es := ds ++ [d]) hx
    exact ⟨q, hq, xs, hp⟩
  obtain ⟨q, hq, xs, hp⟩ := gen .none e
  refine ⟨.ref q, hq, .inl ⟨rfl, xs, .inl (.inl hp)⟩, h H0 O H σ e _ fun v d H2 pd r rs => ?_⟩
  have e2 := e.on r
  obtain ⟨q', xs', f', hq', hp', fa', qf', qO', wr⟩ := e2.write (es := ds ++ [d]) hx
  have : q' = q := by rw [hq] at hq'; cases hq'; rfl
  subst this
  have bo : Bo c H2 v d := Res.bo e rs
  have lx : xs'.length = ds.length := (fa'.bo fun a ha => e.okO a (qO' a ha)).len
  refine ⟨q', xs', v, rfl, rfl, hp', by rw [lx, sizeLine_eq]; omega, s _ (p d pd) O _ σ (wr (xs' ++ [v]) ?_)⟩
  have := fa'.app (.cons (.leaf (hf d pd) bo) .nil : FoAll c H2 [v] [d] ([] ++ []))
  rw [List.append_nil, List.append_nil] at this
  exact this.up (fun _ _ s => sqT_upd hp' s) fun a ha o z => by
    have : a ≠ q' := fun w => qf' (w ▸ ha)
    rw [upd_ne this]; exact z
theorem n_lst1 {Pa : PyData → Prop} (ha : EvN c ta Γ ka Pa) (hx : ∀ y, Pa y → flatD y = true) : EvN c (tLst (tCons ta tNil)) Γ .o (fun d => ∃ x, d = .list [x] ∧ Pa x) := fun H0 O H σ e Q q =>
  ha H0 O H σ e _ fun v x H1 px r1 s1 => by
    refine ⟨by show 1 ≤ sizeLine; decide, fun p hp' => ?_⟩
    have sm : Same H1 (upd H1 p (.lst [v])) := fun b u z => by rw [upd_ne (ne_of_none z hp')]; exact z
    have al : BoAll c H1 [v] [x] := .cons (Res.bo e s1) .nil
    have fl : flatAll [x] = true := flatAll_mem fun d hd => by rw [List.mem_singleton.mp hd]; exact hx x px
    refine q _ _ _ ⟨x, rfl, px⟩ (r1.tr (Rr.same sm)) ⟨[p], .lst upd_same (FoAll.leaves fl (al.same sm)), by simp, fun a ha => ?_⟩
    cases List.mem_singleton.mp ha
    exact r1.back e.jH hp'
/-- f(stream, e) where e is one of several -/
theorem n_callN {pre : PreS} {E : XK} {st l : Addr} {P Pa : PyData → Prop} {m : Nat} (hc : c.so = some (st, l)) (hst : Γ[m]? = some (some (.r (.ref st)))) (h : EvN c ta Γ ka Pa) (hp : ∀ x, Pa x → pre [x] k P) :
    EvN c (tCall (spS c.K pre) [] E (tCons (tVar m) (tCons ta tNil))) Γ k P := fun H0 O H σ e Q q => by
  have hcc : c = sc c.K st l := by cases c; cases hc; rfl
  refine ⟨_, e.slotR hst, h H0 O H σ e _ fun v x H1 px r s => ?_⟩
  refine ⟨st, l, [v], [x], k, P, rfl, (e.on r).jH st l hc, by rw [← hcc]; exact .cons (Res.bo e s) .nil, hp x px, fun v d H2 pd r2 rt => ?_⟩
  rw [← hcc] at r2 rt
  refine q v d H2 pd (r.tr r2) ?_
  exact (Rt.res (e.on r) r2 rt).back e r
/-- f(stream, .., e) where the last one is one of several -/
theorem n_callN3 {pre : PreS} {E : XK} {st l : Addr} {P Pa : PyData → Prop} {m : Nat} (hc : c.so = some (st, l)) (hst : Γ[m]? = some (some (.r (.ref st)))) (hx : Ev c tx Γ kb x) (hy : Ev c tb Γ kb y) (h : EvN c ta Γ ka Pa) (hp : ∀ z, Pa z → pre [x, y, z] k P) :
    EvN c (tCall (spS c.K pre) [] E (tCons (tVar m) (tCons tx (tCons tb (tCons ta tNil))))) Γ k P := fun H0 O H σ e Q q => by
  have hcc : c = sc c.K st l := by cases c; cases hc; rfl
  refine ⟨_, e.slotR hst, hx H0 O H σ e _ fun v1 H1 r1 s1 => hy H0 O H1 σ (e.on r1) _ fun v2 H2 r2 s2 => h H0 O H2 σ ((e.on r1).on r2) _ fun v x H3 px r3 s3 => ?_⟩
  have r : Rr c H H3 := (r1.tr r2).tr r3
  refine ⟨st, l, [v1, v2, v], _, k, P, rfl, (e.on r).jH st l hc, by rw [← hcc]; exact .cons (Res.bo e (Res.on e r1 (r2.tr r3) s1)) (.cons (Res.bo (e.on r1) (Res.on (e.on r1) r2 r3 s2)) (.cons (Res.bo ((e.on r1).on r2) s3) .nil)), hp x px, fun v d H4 pd r4 rt => ?_⟩
  rw [← hcc] at r4 rt
  refine q v d H4 pd (r.tr r4) ?_
  exact (Rt.res (e.on r) r4 rt).back e r
/-- for .. in range(e), e one of several -/
theorem q_forRN {g : TG} {tb : TS} {Q : Int → Prop} (h : EvN c te Γ k (SomeI Q)) (hs : ∀ m, Q m → Sd c (tSeq (tFor (iRng1 (tCons (tC (.int m)) tNil)) g tb) u) Γ P) : Sd c (tSeq (tFor (iRng1 (tCons te tNil)) g tb) u) Γ P := fun H0 O H σ D e s =>
  h H0 O H σ e _ fun v d H1 ⟨m, ed, qm⟩ r1 s1 => by
    subst ed
    have w := hs m qm H0 O H1 σ D (e.on r1) s
    rw [(Res.bo e s1).int']
    exact w
end
def sp_are_allocations (K : PySem.W.Frag) : Sp := spD K fun ds k d => ∃ A v b, ds = [.tuple (A.map tupD), .int 10] ∧ Ser A v b ∧ k = .v ∧ d = .bool true
def sp_check_steps (K : PySem.W.Frag) : Sp := spD K fun ds k d => ∃ A v b, ds = [.tuple (A.map tupD)] ∧ Ser A v b ∧ k = .v ∧ d = .none
def sp_steps_of (K : PySem.W.Frag) : Sp := spD K fun ds k d => ∃ es : List PyData, (ds = [.tuple es] ∨ ds = [.list es]) ∧ flatAll es = true ∧ 1 ≤ es.length ∧ es.length ≤ 1000 ∧ k = .o ∧ d = .list (zipTs es (es.drop 1))
def sp_total (K : PySem.W.Frag) : Sp := spD K fun ds k d => ∃ A v b, ds = [.tuple (A.map tupD)] ∧ Ser A v b ∧ k = .v ∧ d = .int (totA A)
def sp_direct (K : PySem.W.Frag) : Sp := spD K fun ds k d => ∃ A v b, ds = [.tuple (A.map tupD)] ∧ Ser A v b ∧ k = .v ∧ d = .int (farA A)
def sp_turn_of (K : PySem.W.Frag) : Sp := spD K fun ds k d => ∃ ns : List Int, ds = [.list (ns.map .int)] ∧ 1 ≤ ns.length ∧ ns.length ≤ 1000 ∧ k = .v ∧ d = natD (turnF false false 0 (prs ns))
def sp_first_turn (K : PySem.W.Frag) : Sp := spD K fun ds k d => ∃ A v b, ds = [.tuple (A.map tupD)] ∧ Ser A v b ∧ k = .v ∧ d = twoD (fstT A v.toNat)
def losL (A : List (List Int)) (n : Nat) : List Int := (List.range n).map fun i => losC A i
def sp_decreases (K : PySem.W.Frag) : Sp := spD K fun ds k d => ∃ A v b, ds = [.tuple (A.map tupD)] ∧ Ser A v b ∧ k = .v ∧ d = .tuple ((losL A v.toNat).map .int)
def sp_overdrawn (K : PySem.W.Frag) : Sp := spD K fun ds k d => ∃ A v b, ds = [.tuple (A.map tupD)] ∧ Ser A v b ∧ k = .v ∧ d = natD (ovr A v.toNat)
def sp__law_nearA (K : PySem.W.Frag) : Sp := spS K fun ds k Q => ∃ (ns : List Int) (v b : Int), ds = [.tuple (ns.map .int)] ∧ Alc ns v b ∧ 1 ≤ v ∧ v ≤ 5 ∧ k = .v ∧ Q = fun d => ∃ ms : List Int, d = .tuple (ms.map .int) ∧ Alc ms v b
def sp__law_series (K : PySem.W.Frag) : Sp := spS K fun ds k Q => ∃ v b n : Int, ds = [.int v, .int b, .int n] ∧ 1 ≤ v ∧ v ≤ 5 ∧ 0 ≤ b ∧ b ≤ 20 ∧ 1 ≤ n ∧ n ≤ 10 ∧ k = .v ∧ Q = fun d => ∃ A, d = .tuple (A.map tupD) ∧ Ser A v b
def sp__law_turn (K : PySem.W.Frag) : Sp := spD K fun ds k d => ∃ A v b, ∃ i : Nat, ds = [.tuple (A.map tupD), .int (i : Int)] ∧ Ser A v b ∧ i < v.toNat ∧ k = .v ∧ d = natD (turnC A i)
theorem fl_rows (A : List (List Int)) : flatAll (A.map tupD) = true := flatAll_mem fun d hd => by
  obtain ⟨r, _, rfl⟩ := List.mem_map.mp hd
  exact flatT r
theorem at_tup {A : List (List Int)} {j : Nat} (h : j < A.length) : atI (A.map tupD) (j : Int) = some (tupD (A.getD j [])) := atI_nat (by simp [h])
theorem at_tup1 {A : List (List Int)} {j : Nat} (h : j + 1 < A.length) : atI (A.map tupD) ((j : Int) + 1) = some (tupD (A.getD (j + 1) [])) := by
  have := at_tup (A := A) (j := j + 1) h
  exact this
theorem at_tupL {A : List (List Int)} (h : 1 ≤ A.length) : atI (A.map tupD) (-1) = some (tupD (A.getD (A.length - 1) [])) := by
  have e : A = A.dropLast ++ [A.getLast (by intro w; rw [w] at h; simp at h)] := (List.dropLast_concat_getLast _).symm
  have e2 : A.getD (A.length - 1) [] = A.getLast (by intro w; rw [w] at h; simp at h) := by
    rw [List.getD_eq_getElem?_getD, List.getLast_eq_getElem, List.getElem?_eq_getElem (by omega)]
    rfl
  rw [e2]
  have := at_lastI (A.dropLast.map tupD) (tupD (A.getLast (by intro w; rw [w] at h; simp at h)))
  rw [show A.dropLast.map tupD ++ [tupD (A.getLast (by intro w; rw [w] at h; simp at h))] = (A.dropLast ++ [A.getLast (by intro w; rw [w] at h; simp at h)]).map tupD by simp, ← e] at this
  exact this
theorem zipTs_rows (A : List (List Int)) : zipTs (A.map tupD) ((A.map tupD).drop 1) = (prs A).map fun p => .tuple [tupD p.1, tupD p.2] := by
  unfold zipTs prs
  rw [← List.map_drop, List.zip_map, List.map_map]
  rfl
theorem zipTs_nums (ns : List Int) : zipTs (ns.map PyData.int) ((ns.map PyData.int).drop 1) = (prs ns).map fun p => .tuple [.int p.1, .int p.2] := by
  unfold zipTs prs
  rw [← List.map_drop, List.zip_map, List.map_map]
  rfl
theorem prs_len {α : Type} (A : List α) : (prs A).length = A.length - 1 := by simp [prs]
theorem flat_nat (o : Option Nat) : flatD (natD o) = true := by cases o <;> rfl
theorem flat_pr (o : Option (Nat × Nat)) : flatD (twoD o) = true := by cases o <;> rfl
theorem Alc.mv {ns : List Int} {v b : Int} {i j : Nat} (h : Alc ns v b) (hi : i < ns.length) (hj : j < ns.length) (hp : 0 < ns.getD i 0) : Alc ((ns.set i (ns.getD i 0 - 1)).set j ((ns.set i (ns.getD i 0 - 1)).getD j 0 + 1)) v b := by
  have nn1 : ∀ n ∈ ns.set i (ns.getD i 0 - 1), 0 ≤ n := fun n hn => by
    rcases List.mem_or_eq_of_mem_set hn with w | w
    · exact h.nn n w
    · omega
  have sm : ∀ (l : List Int) (m : Nat) (x : Int), m < l.length → (l.set m x).sum = l.sum - l.getD m 0 + x := by
    intro l
    induction l with
    | nil => intro m x w; simp at w
    | cons a l ih =>
      intro m x w
      cases m with
      | zero => simp; omega
      | succ m => have := ih m x (by simpa using w); simp only [List.set_cons_succ, List.sum_cons, List.getD_cons_succ]; omega
  have l1 : j < (ns.set i (ns.getD i 0 - 1)).length := by simpa using hj
  refine ⟨by simp [h.len], ?_, fun n hn => ?_⟩
  · rw [sm _ _ _ l1, sm _ _ _ hi, h.sum]
    omega
  · rcases List.mem_or_eq_of_mem_set hn with w | w
    · exact nn1 n w
    · have : 0 ≤ (ns.set i (ns.getD i 0 - 1)).getD j 0 := by
        rw [List.getD_eq_getElem?_getD, List.getElem?_eq_getElem l1]
        exact nn1 _ (List.getElem_mem l1)
      omega
end Lm
namespace Lm
open PySem PySem.Spec PyProof.Rows L2
theorem i_seqL' {c : Ct} {Γ : List (Option Rs)} {tl : TE} {k : Kd} {ds : List PyData} {items : List Im} (h : Ev c tl Γ k (.list ds)) (hk : k ≠ .b) (e : ds.map Im.d = items) : EvI c (iSeq c.K tl) Γ true items := e ▸ i_seqL h hk
theorem i_enumL' {c : Ct} {Γ : List (Option Rs)} {te : TE} {k : Kd} {ds : List PyData} {items : List Im} (h : Ev c te Γ k (.list ds)) (hk : k ≠ .b) (e : enumI ds = items) : EvI c (iEnumA c.K (tCons te tNil)) Γ true items := e ▸ i_enumLO h hk
end Lm
namespace Lm
open PySem PySem.Spec PyProof.Rows L2
theorem i_seqB' {c : Ct} {Γ : List (Option Rs)} {tl : TE} {k : Kd} {ds : List PyData} {items : List Im} (h : Ev c tl Γ k (.list ds)) (hf : flatAll ds = true) (e : ds.map Im.d = items) : EvI c (iSeq c.K tl) Γ false items := e ▸ i_seqB h hf
theorem fl_prs (A : List (List Int)) : flatAll ((prs A).map fun p => PyData.tuple [tupD p.1, tupD p.2]) = true := flatAll_mem fun d hd => by
  obtain ⟨p, _, rfl⟩ := List.mem_map.mp hd
  simp [flatD, flatAll, flatAll_ints]
theorem fstT_mono {A : List (List Int)} {m n : Nat} {p : Nat × Nat} (h : m ≤ n) (e : fstT A m = some p) : fstT A n = some p := by
  induction n with
  | zero => have : m = 0 := by omega
            rw [← this]; exact e
  | succ n ih =>
    by_cases w : m = n + 1
    · rw [← w]; exact e
    · rw [fstT_succ, ih (by omega)]; rfl
theorem ovr_mono {A : List (List Int)} {m n i : Nat} (h : m ≤ n) (e : ovr A m = some i) : ovr A n = some i := by
  induction n with
  | zero => have : m = 0 := by omega
            rw [← this]; exact e
  | succ n ih =>
    by_cases w : m = n + 1
    · rw [← w]; exact e
    · rw [ovr_succ, ih (by omega)]; rfl
end Lm
namespace Lm
open PySem PySem.Spec PyProof.Rows L2
theorem i_rowsT {c : Ct} {Γ : List (Option Rs)} {tl : TE} {k : Kd} {l : List (List Int)} (h : Ev c tl Γ k (.tuple (l.map tupD))) (hk : k ≠ .b) : EvI c (iSeq c.K tl) Γ true (l.map tupI) := by
  have := i_seqT h hk
  rw [List.map_map] at this
  exact this
end Lm
namespace Lm
open PySem PySem.Spec PyProof.Rows L2
theorem i_rng1' {c : Ct} {Γ : List (Option Rs)} {tr : TA} {kv : Bool} {n : Int} {m : Nat} (h : EvA c tr Γ kv [.int n]) (hn : n ≤ 1000000) (hn' : -1000000 ≤ n) (e : n.toNat = m) : EvI c (iRng1 tr) Γ true ((upI 0 m).map fun i => Im.d (.int i)) := e ▸ i_rng1 h hn hn'
theorem prs_rng (A : List (List Int)) : prs A = (List.range (A.length - 1)).map fun i => (A.getD i [], A.getD (i + 1) []) := by
  apply List.ext_getElem
  · simp [prs]
  · intro i h1 h2
    have i1 : i + 1 < A.length := by rw [prs_len] at h1; omega
    have i0 : i < A.length := by omega
    simp [prs, List.getD_eq_getElem?_getD, i0, i1, Nat.add_comm]
theorem eq_nat (o : Option Nat) : EqOk 7 (natD o) := by
  cases o with
  | none => exact .non
  | some n => exact .int _
theorem eq_pr (o : Option (Nat × Nat)) : EqOk 7 (twoD o) := by
  cases o with
  | none => exact .non
  | some p =>
    refine .tup (by simp) fun x hx => ?_
    simp only [List.mem_cons, List.not_mem_nil, or_false] at hx
    rcases hx with rfl | rfl
    · exact .int _
    · exact .int _
end Lm

/-! lists that hold lists of one's own; any item of a list handed back; forms of any data -/
namespace Lm
open PySem PySem.Spec PyProof.Rows L2
section
variable {c : Ct} {H H' H0 H1 H2 H3 : Hp} {O : List Addr} {Γ Γ' Γ1 : List (Option Rs)}
variable {te ta tb tx : TE} {k ka kb kx : Kd} {d x y z : PyData} {ds es : List PyData} {u : TS} {P : Out → Prop} {n : Nat} {tr : TA} {i : Int}
/-- arguments that may hold new lists -/
def EvO (c : Ct) (tr : TA) (Γ : List (Option Rs)) (ds : List PyData) : Prop :=
  ∀ H0 O H σ, Env c H0 O H σ Γ → ∀ Q : List V → Hp → Prop, (∀ vs H2 fp, Rr c H H2 → FoAll c H2 vs ds fp → fp.Nodup → (∀ a ∈ fp, H a = none) → Q vs H2) → tr σ H Q
theorem eo_nil : EvO c tNil Γ [] := fun H0 O H σ e Q q => q [] H [] Rr.rf .nil List.nodup_nil (fun _ h => nomatch h)
theorem eo_cons (h : Ev c te Γ .o d) (g : EvO c tr Γ ds) : EvO c (tCons te tr) Γ (d :: ds) := fun H0 O H σ e Q q =>
  h H0 O H σ e _ fun v H1 r1 ⟨f1, F1, n1, new1⟩ => g H0 O H1 σ (e.on r1) _ fun vs H2 f2 r2 F2 n2 new2 => by
    refine q (v :: vs) H2 (f1 ++ f2) (r1.tr r2) (.cons (F1.up (fun _ _ s => r2.tup (e.on r1).jH s) fun a ha o z => r2.1 a o (okA.fresh e.jH (new1 a ha)) z) F2) ?_ ?_
    · rw [List.nodup_append]
      refine ⟨n1, n2, fun a ha b hb w => ?_⟩
      subst w
      obtain ⟨xs, z⟩ := F1.isL a ha
      rw [new2 a hb] at z
      cases z
    · intro a ha
      rcases List.mem_append.mp ha with w | w
      · exact new1 a w
      · exact r1.back e.jH (new2 a w)
theorem e_lstO (h : EvO c tr Γ ds) (hl : ds.length ≤ 1000000) : Ev c (tLst tr) Γ .o (.list ds) := fun H0 O H σ e Q q =>
  h H0 O H σ e _ fun vs H1 fp r F nd new => by
    have lv : vs.length = ds.length := (F.bo fun a ha => okA.fresh e.jH (new a ha)).len
    refine ⟨by rw [lv]; exact sizeOk hl, fun p hp => ?_⟩
    have sm : Same H1 (upd H1 p (.lst vs)) := fun b u z => by rw [upd_ne (ne_of_none z hp)]; exact z
    refine q _ _ (r.tr (Rr.same sm)) ⟨p :: fp, .lst upd_same (F.up (fun _ _ s => sqT_same sm s) fun a _ o z => sm a o z), List.nodup_cons.mpr ⟨fun w => ?_, nd⟩, fun a ha => ?_⟩
    · obtain ⟨xs, z⟩ := F.isL p w
      rw [hp] at z
      cases z
    · rcases List.mem_cons.mp ha with w | w
      · rw [w]; exact r.back e.jH hp
      · exact new a w
theorem FoAll.nthS : ∀ {vs : List V} {ds : List PyData} {fp : List Addr} {i : Nat} {v : V}, FoAll c H vs ds fp → vs[i]? = some v → ∃ d g, ds[i]? = some d ∧ Fo c H v d g ∧ g.Sublist fp
  | _, _, _, _, _, .nil, h => by simp at h
  | _, _, _, 0, v, .cons a b, h => by
    have e : _ = v := Option.some.inj h
    subst e
    exact ⟨_, _, rfl, a, List.sublist_append_left _ _⟩
  | _, _, _, i + 1, v, .cons a b, h => by
    obtain ⟨d, g, h1, h2, h3⟩ := FoAll.nthS (i := i) b (by simpa using h)
    exact ⟨d, g, h1, h2, h3.trans (List.sublist_append_right _ _)⟩
/-- any item of a list handed in -/
def sp__law_pick (K : PySem.W.Frag) : Sp := fun vs H Q _ => ∃ (st l p : Addr) (xs : List V), vs = [.ref st, .ref p] ∧ Str1 K st l H ∧ SqL K H p xs ∧ p ≠ st ∧ 0 < xs.length ∧ xs.length ≤ 1000 ∧ ∀ (i : Nat) (v : V) (H' : Hp), xs[i]? = some v → Rr (sc K st l) H H' → Q v H'
theorem s_retPick {m : Nat} {st l : Addr} {E : XK} (hc : c.so = some (st, l)) (h0 : Γ[m]? = some (some (.r (.ref st)))) (hx : Γ[n]? = some (some (.o (.list ds)))) (h1 : 0 < ds.length) (h2 : ds.length ≤ 1000) (p : ∀ d ∈ ds, P (.rt .o d)) :
    Sd c (tRet (tCall (sp__law_pick c.K) [] E (tCons (tVar m) (tCons (tVar n) tNil)))) Γ P := fun H0 O H σ D e s => by
  have hcc : c = sc c.K st l := by cases c; cases hc; rfl
  obtain ⟨v, fp, hv, f, nd, sub⟩ := e.slotO hx
  obtain ⟨a, xs, f', rfl, rfl, ha, fa⟩ := f.list'
  have lx : xs.length = ds.length := (fa.bo fun b hb => e.okO b (sub b (by simp [hb]))).len
  have hst := e.jH st l hc
  refine ⟨_, e.slotR h0, _, hv, ⟨st, l, a, xs, rfl, hst, .inl (.inl ha), e.okO a (sub a (by simp)) st l hc, by omega, by omega, fun i v H' hi r => ?_⟩⟩
  rw [← hcc] at r
  obtain ⟨d, g, hd, F, sl⟩ := fa.nthS hi
  have gs : ∀ b ∈ g, b ∈ O := fun b hb => sub b (by simp [sl.subset hb])
  refine s _ (p d (List.mem_of_getElem? hd)) v H' (e.rH.tr r) ⟨g, F.up (fun _ _ s => r.tup e.jH s) fun b hb o z => r.1 b o (e.okO b (gs b hb)) z, ?_, fun b hb => e.fr b (gs b hb)⟩
  exact (List.nodup_cons.mp nd).2.sublist sl
theorem d_pure3 {pre : Pre} {E : XK} {Pa : PyData → Prop} (ha : EvN c ta Γ ka Pa) (hb : Ev c tb Γ kb y) (hc : Ev c tx Γ kx z) (hp : ∀ x, Pa x → pre [x, y, z] .v d) : Ev c (tCall (spD c.K pre) [] E (tCons ta (tCons tb (tCons tx tNil)))) Γ .v d := fun H0 O H σ e Q q =>
  ha H0 O H σ e _ fun v x H1 px r1 s1 => hb H0 O H1 σ (e.on r1) _ fun w H2 r2 s2 => hc H0 O H2 σ ((e.on r1).on r2) _ fun t H3 r3 s3 => by
    have r := (r1.tr r2).tr r3
    have al : BoAll c H3 [v, w, t] [x, y, z] := .cons (Res.bo e (Res.on e r1 (r2.tr r3) s1)) (.cons (Res.bo (e.on r1) (Res.on (e.on r1) r2 r3 s2)) (.cons (Res.bo ((e.on r1).on r2) s3) .nil))
    refine ⟨[x, y, z], .v, d, al.pure, hp x px, fun u H4 sm rt => q u H4 (r.tr (Rr.same sm)) ?_⟩
    exact (Bo.flat (c := pc c.K) (c' := c) rfl rt.1 rt.2).flatM e (r.tr (Rr.same sm)) rt.1
theorem d_pure2 {pre : Pre} {E : XK} {Pa : PyData → Prop} (ha : EvN c ta Γ ka Pa) (hb : Ev c tb Γ kb y) (hp : ∀ x, Pa x → pre [x, y] .v d) : Ev c (tCall (spD c.K pre) [] E (tCons ta (tCons tb tNil))) Γ .v d := fun H0 O H σ e Q q =>
  ha H0 O H σ e _ fun v x H1 px r1 s1 => hb H0 O H1 σ (e.on r1) _ fun w H2 r2 s2 => by
    have r := r1.tr r2
    have al : BoAll c H2 [v, w] [x, y] := .cons (Res.bo e (Res.on e r1 r2 s1)) (.cons (Res.bo (e.on r1) s2) .nil)
    refine ⟨[x, y], .v, d, al.pure, hp x px, fun u H4 sm rt => q u H4 (r.tr (Rr.same sm)) ?_⟩
    exact (Bo.flat (c := pc c.K) (c' := c) rfl rt.1 rt.2).flatM e (r.tr (Rr.same sm)) rt.1
theorem t_truT (h : Ev c te Γ k (.tuple ds)) : EvT c (fun σ H Q => te σ H fun x H' => ∃ k, TruV c.K x H' k ∧ Q k H') Γ (!ds.isEmpty) := fun H0 O H σ e Q q =>
  h H0 O H σ e _ fun v H1 r s => by
    obtain ⟨p, xs, rfl, sq, al⟩ := (Res.bo e s).tup'
    refine ⟨!xs.isEmpty, .inr (.inl ⟨xs, sq.sq, rfl⟩), ?_⟩
    have : xs.isEmpty = ds.isEmpty := by
      have := al.len
      cases xs <;> cases ds <;> simp_all
    rw [this]
    exact q H1 r
end
/-- each value once -/
def dd : List Int → List Int
  | [] => []
  | n :: l => if n ∈ l then dd l else n :: dd l
theorem mem_dd {m : Int} : ∀ {l : List Int}, m ∈ dd l ↔ m ∈ l
  | [] => by simp [dd]
  | n :: l => by
    unfold dd
    split
    · rename_i h
      rw [mem_dd, List.mem_cons]
      exact ⟨.inr, fun w => w.elim (fun z => z ▸ h) id⟩
    · rw [List.mem_cons, List.mem_cons, mem_dd]
theorem nd_dd : ∀ {l : List Int}, (dd l).Nodup
  | [] => List.nodup_nil
  | n :: l => by
    unfold dd
    split
    · exact nd_dd
    · rename_i h
      exact List.nodup_cons.mpr ⟨fun w => h (mem_dd.mp w), nd_dd⟩
theorem dd_le : ∀ {l : List Int}, (dd l).length ≤ l.length
  | [] => Nat.le_refl _
  | n :: l => by
    have := dd_le (l := l)
    unfold dd
    split
    · simp only [List.length_cons]; omega
    · simp only [List.length_cons]; omega
theorem dd_self : ∀ {l : List Int}, l.Nodup → dd l = l
  | [], _ => rfl
  | n :: l, h => by
    have h' := List.nodup_cons.mp h
    unfold dd
    rw [if_neg h'.1, dd_self h'.2]
def ddN : PyData → Nat
  | .tuple ds => (dd (ds.map Lm.intD)).length
  | _ => 0
def isOrdB (x : PyData) (m : Int) : Bool := areInts x 0 (m - 1) && (decide ((lenT x : Int) = m) && decide ((ddN x : Int) = m))
def sp_is_orderD (K : PySem.W.Frag) : Sp := spD K fun ds k d => ∃ x m, ds = [x, .int m] ∧ SmallT x ∧ m ≤ 1000 ∧ k = .v ∧ d = .bool (isOrdB x m)
theorem ordB_ints (ns : List Int) (m : Int) : isOrdB (.tuple (ns.map .int)) m = (areInts (.tuple (ns.map .int)) 0 (m - 1) && (decide ((ns.length : Int) = m) && decide (((dd ns).length : Int) = m))) := by
  have e : (ns.map PyData.int).map Lm.intD = ns := by
    rw [List.map_map]
    exact List.map_id ns
  unfold isOrdB
  rw [lenT_ints]
  show (_ && (_ && decide (((dd ((ns.map PyData.int).map Lm.intD)).length : Int) = m))) = _
  rw [e]
theorem IsOrd.isB {ns : List Int} {m : Int} (h : IsOrd ns m) : isOrdB (.tuple (ns.map .int)) m = true := by
  rw [ordB_ints, areInts_of fun n hn => ⟨(h.rng n hn).1, by have := (h.rng n hn).2; omega⟩, dd_self h.nd, h.len]
  simp
/-- no tuple of numbers from 0 on -/
def Bad (d : PyData) : Prop := SmallT d ∧ ∀ hi : Int, hi ≤ 98 → areInts d 0 hi = false
def sp__law_changed (K : PySem.W.Frag) : Sp := spS K fun ds k Q => ∃ ns : List Int, ds = [.tuple (ns.map .int)] ∧ ns.length ≤ 20 ∧ k = .o ∧ Q = Bad
theorem areInts_mem {ds : List PyData} {hi : Int} {x : PyData} (hx : x ∈ ds) (h : isIntD x 0 hi = false) : areInts (.tuple ds) 0 hi = false := by
  show (ds.all fun d => isIntD d 0 hi) = false
  exact List.all_eq_false.mpr ⟨x, hx, by rw [h]; simp⟩
theorem bad_mem {ds : List PyData} {x : PyData} (hl : ds.length ≤ 1000) (hx : x ∈ ds) (h : ∀ hi : Int, hi ≤ 98 → isIntD x 0 hi = false) : Bad (.tuple ds) :=
  ⟨fun es e => by rw [← PyData.tuple.inj e]; omega, fun hi w => areInts_mem hx (h hi w)⟩
theorem bad_not {d : PyData} (h : ∀ ds, d ≠ .tuple ds) : Bad d := ⟨fun es e => absurd e (h es), fun hi _ => by
  cases d with
  | tuple ds => exact absurd rfl (h ds)
  | _ => rfl⟩
theorem bad_items : ∀ x ∈ [PyData.int (-1), .none, .str "0", .tuple [.int 0], .int 99], ∀ hi : Int, hi ≤ 98 → isIntD x 0 hi = false := by
  intro x hx hi h
  simp only [List.mem_cons, List.not_mem_nil, or_false] at hx
  rcases hx with rfl | rfl | rfl | rfl | rfl
  · simp [isIntD]
  · rfl
  · rfl
  · rfl
  · simp [isIntD]; omega
end Lm
namespace Lm
open PySem PySem.Spec PyProof.Rows L2
section
variable {c : Ct} {Γ : List (Option Rs)} {t u w : TS} {P : Out → Prop}
theorem s_asc (h : Sd c (tSeq t (tSeq u w)) Γ P) : Sd c (tSeq (tSeq t u) w) Γ P := h
end
theorem areInts_out {ns : List Int} {n hi : Int} (h : n ∈ ns) (w : n < 0 ∨ hi < n) : areInts (.tuple (ns.map .int)) 0 hi = false :=
  areInts_mem (List.mem_map_of_mem h) (by simp [isIntD]; omega)
theorem cut_at {α : Type} {ds : List α} {t : Nat} (h : t ≤ ds.length) : cutD ds none (some (t : Int)) = ds.take t := cutD_hi h
theorem cut_from {α : Type} {ds : List α} {t : Nat} (h : t + 1 ≤ ds.length) : cutD ds (some ((t : Int) + 1)) none = ds.drop (t + 1) := cutD_lo (t := t + 1) h
theorem cut_last {α : Type} {ds : List α} (h : 1 ≤ ds.length) : cutD ds none (some (-1)) = ds.take (ds.length - 1) := by
  unfold cutD
  have e : HT.sIx ds.length ds.length (some (-1)) = ds.length - 1 := by
    show (if (-1 : Int) < 0 then ((-1 : Int) + (ds.length : Int)).toNat else min (-1 : Int).toNat ds.length) = _
    rw [if_pos (by decide)]
    omega
  rw [e, HT.sIx_none]
  simp
/-- one place changed -/
def putD {α : Type} (t : Nat) (x : α) (l : List α) : List α := l.take t ++ [x] ++ l.drop (t + 1)
theorem put_len {α : Type} {t : Nat} {x : α} {l : List α} (h : t < l.length) : (putD t x l).length = l.length := by simp [putD]; omega
theorem put_mem {α : Type} {t : Nat} {x : α} {l : List α} : x ∈ putD t x l := by simp [putD]
theorem put_int {t : Nat} {x : Int} {l : List Int} : putD t (PyData.int x) (l.map .int) = (putD t x l).map .int := by simp [putD]
theorem e_put {c : Ct} {Γ : List (Option Rs)} {ta tb tx : TE} {kb : Kd} {x : PyData} {ds : List PyData} {t : Nat} (ha : Ev c ta Γ .v (.tuple ds)) (hi : Ev c tb Γ kb (.int (t : Int))) (hx : Ev c tx Γ .v x) (h : t < ds.length) (hl : ds.length ≤ 1000) :
    Ev c (tOp (rAddA c.K) (tOp (rAddA c.K) (tSl (rSlN c.K) ta tNoPart (tPart tb)) (tTupN (tCons tx tNil))) (tSl (rSlN c.K) ta (tPart (tOp (rAddA c.K) tb (tC (.int 1)))) tNoPart)) Γ .v (.tuple (putD t x ds)) := by
  refine (e_catT (e_catT (e_sl ha o_none (o_some hi)) (d_tup (a_consV hx a_nil) (by simp)) ?_) (e_sl ha (o_some (e_add hi d_int)) o_none) ?_).to ?_
  · rw [cut_at (by omega)]; simp; omega
  · rw [cut_at (by omega), cut_from (by omega)]; simp; omega
  · rw [cut_at (by omega), cut_from (by omega)]
    rfl
theorem fl_put {t : Nat} {x : PyData} {ns : List Int} (h : flatD x = true) : flatD (.tuple (putD t x (ns.map PyData.int))) = true := by
  show flatAll _ = true
  refine flatAll_mem fun d hd => ?_
  unfold putD at hd
  simp only [List.mem_append, List.mem_singleton] at hd
  rcases hd with (w | w) | w
  · exact flatAll_one (flatAll_ints ns) (List.mem_of_mem_take w)
  · rw [w]; exact h
  · exact flatAll_one (flatAll_ints ns) (List.mem_of_mem_drop w)
theorem sumI_cat (a b : List Int) : (a ++ b).sum = a.sum + b.sum := List.sum_append
theorem inc_put {p : Nat} {f : List Int} : putD p (f.getD p 0 + 1) f = incI p f := rfl
theorem dup_dd {ns : List Int} (h : 2 ≤ ns.length) : (dd (ns.take (ns.length - 1) ++ ns.take 1)).length ≤ ns.length - 1 := by
  cases ns with
  | nil => simp at h
  | cons n l =>
    have e1 : (n :: l).take ((n :: l).length - 1) = n :: l.take (l.length - 1) := by
      have : (n :: l).length - 1 = (l.length - 1) + 1 := by simp at h ⊢; omega
      rw [this, List.take_succ_cons]
    have e2 : (n :: l).take 1 = [n] := rfl
    rw [e1, e2]
    show (dd (n :: (l.take (l.length - 1) ++ [n]))).length ≤ _
    unfold dd
    rw [if_pos (by simp)]
    refine Nat.le_trans dd_le ?_
    simp at h ⊢
    omega
end Lm
namespace Lm
open PySem PySem.Spec PyProof.Rows L2
theorem s_seqE {c : Ct} {Γ : List (Option Rs)} {t u : TS} {P : Out → Prop} (I : List (Option Rs) → Prop) (h : Sd c t Γ (fun o => ∃ Γ3, o = .nx Γ3 ∧ I Γ3)) (hd : ∀ Γ3, I Γ3 → Sd c u Γ3 P) : Sd c (tSeq t u) Γ P :=
  s_seq h (fun _ e => by obtain ⟨Γ3, e, i⟩ := e; cases e; exact hd _ i) (fun _ _ e => by obtain ⟨_, e, _⟩ := e; cases e) (fun _ e => by obtain ⟨_, e, _⟩ := e; cases e) (fun _ e => by obtain ⟨_, e, _⟩ := e; cases e)
end Lm

/-! assignments in order of their variants; small series -/
namespace Lm
open PySem PySem.Spec PyProof.Rows L2
/-- as many of each variant as there shall be, from variant i on -/
def ascF : Nat → List Int → List Int
  | _, [] => []
  | i, n :: ns => List.replicate n.toNat (i : Int) ++ ascF (i + 1) ns
theorem ascF_snoc : ∀ (ns : List Int) (i : Nat) (n : Int), ascF i (ns ++ [n]) = ascF i ns ++ List.replicate n.toNat ((i + ns.length : Nat) : Int)
  | [], i, n => by simp [ascF]
  | m :: ns, i, n => by
    rw [List.cons_append, ascF, ascF, ascF_snoc ns (i + 1) n, List.append_assoc]
    congr 4
    simp; omega
theorem ascF_len : ∀ (ns : List Int) (i : Nat), (∀ n ∈ ns, 0 ≤ n) → ((ascF i ns).length : Int) = ns.sum
  | [], i, _ => by simp [ascF]
  | n :: ns, i, h => by
    have := ascF_len ns (i + 1) fun m hm => h m (List.mem_cons_of_mem _ hm)
    have := h n (by simp)
    simp only [ascF, List.length_append, List.length_replicate, List.sum_cons]
    omega
theorem ascF_take {ns : List Int} {k : Nat} (h : ∀ n ∈ ns, 0 ≤ n) : ((ascF 0 (ns.take k)).length : Int) ≤ ns.sum := by
  have h1 := ascF_len (ns.take k) 0 fun n hn => h n (List.mem_of_mem_take hn)
  have h2 : ns.sum = (ns.take k).sum + (ns.drop k).sum := by rw [← List.sum_append, List.take_append_drop]
  have h3 := sum_nn (ns := ns.drop k) fun n hn => h n (List.mem_of_mem_drop hn)
  omega
theorem take_one {ns : List Int} {n : Nat} (h : n < ns.length) : ns.take (n + 1) = ns.take n ++ [ns.getD n 0] := by
  rw [List.take_add_one, List.getElem?_eq_getElem h, List.getD_eq_getElem?_getD, List.getElem?_eq_getElem h]
  rfl
theorem rep_int (m : Nat) (x : Int) : (List.replicate m [PyData.int x]).flatten = (List.replicate m x).map PyData.int := by
  rw [List.flatten_replicate_singleton, List.map_replicate]
def sp_ascending (K : PySem.W.Frag) : Sp := spD K fun ds k d => ∃ (ns : List Int) (v b : Int), ds = [.tuple (ns.map .int)] ∧ Alc ns v b ∧ v ≤ 1000 ∧ b ≤ 1000 ∧ k = .v ∧ d = .tuple ((ascF 0 ns).map .int)
def sp__law_sorted (K : PySem.W.Frag) : Sp := spD K fun ds k d => ∃ (ns : List Int) (v b : Int), ds = [.tuple (ns.map .int)] ∧ Alc ns v b ∧ v ≤ 1000 ∧ b ≤ 1000 ∧ k = .v ∧ d = .tuple ((ascF 0 ns).map .int)
/-- a series, and how long at most -/
def sp__law_seriesN (K : PySem.W.Frag) : Sp := spS K fun ds k Q => ∃ v b n N : Int, ds = [.int v, .int b, .int n] ∧ 1 ≤ v ∧ v ≤ 5 ∧ 0 ≤ b ∧ b ≤ 20 ∧ 1 ≤ n ∧ n ≤ 10 ∧ n ≤ N ∧ k = .v ∧ Q = fun d => ∃ A, d = .tuple (A.map tupD) ∧ Ser A v b ∧ (A.length : Int) ≤ N
/-- variants from 2 to 4, as few buckets as variants and allocations let -/
def sp__law_small_series (K : PySem.W.Frag) : Sp := spS K fun ds k Q => ds = [] ∧ k = .v ∧ Q = fun d => ∃ A v b, d = .tuple (A.map tupD) ∧ Ser A v b ∧ 2 ≤ v ∧ v ≤ 4 ∧ b ≤ 4 ∧ A.length ≤ 6
end Lm

/-! intervals: one variant after another -/
namespace Lm
open PySem PySem.Spec PyProof.Rows L2
/-- the assignment by intervals -/
def runL (as os : List Int) : List Int := os.flatMap fun o => List.replicate (gI as o).toNat o
theorem runL_cons {as os : List Int} {o : Int} : runL as (o :: os) = List.replicate (gI as o).toNat o ++ runL as os := rfl
theorem runL_snoc {as os : List Int} {o : Int} : runL as (os ++ [o]) = runL as os ++ List.replicate (gI as o).toNat o := by
  unfold runL; rw [List.flatMap_append]; simp
theorem runL_mem {as os : List Int} {x : Int} (h : x ∈ runL as os) : x ∈ os := by
  obtain ⟨o, ho, hx⟩ := List.mem_flatMap.mp h
  rw [(List.mem_replicate.mp hx).2]; exact ho
def shL (as os : List Int) : List Int := os.map (gI as)
theorem gI_nn {as : List Int} (h : ∀ n ∈ as, 0 ≤ n) (o : Int) : 0 ≤ gI as o := by
  unfold gI
  rw [List.getD_eq_getElem?_getD]
  cases e : as[o.toNat]? with
  | none => simp
  | some x => simpa using h x (List.mem_of_getElem? e)
theorem runL_len {as : List Int} (h : ∀ n ∈ as, 0 ≤ n) : ∀ os : List Int, ((runL as os).length : Int) = (shL as os).sum
  | [] => rfl
  | o :: os => by
    have := runL_len h os
    have := gI_nn h o
    rw [runL_cons, List.length_append, List.length_replicate]
    simp only [shL, List.map_cons, List.sum_cons] at *
    omega
theorem shL_sum {as os : List Int} {v b : Int} (h : Alc as v b) (o : IsOrd os v) : (shL as os).sum = b := by
  have hl : os.length = as.length := by have := h.len; have := o.len; omega
  have p : (shL as (upI 0 os.length)).sum = (shL as os).sum := perm_sum (o.perm.map _)
  rw [← p, ← h.sum, ← sum_range (ns := as), hl]
  unfold shL upI gI
  rw [List.map_map]
  congr 1
  apply List.map_congr_left
  intro j hj
  show as.getD (0 + (j : Int)).toNat 0 = as.getD j 0
  rw [Int.zero_add, Int.toNat_natCast]
theorem runL_asg {as os : List Int} {v b : Int} (h : Alc as v b) (o : IsOrd os v) (hb : b ≤ 20) : Asg (runL as os) v := by
  have := runL_len h.nn os
  rw [shL_sum h o] at this
  exact ⟨by omega, fun n hn => o.rng n (runL_mem hn)⟩
theorem runL_length {as os : List Int} {v b : Int} (h : Alc as v b) (o : IsOrd os v) : ((runL as os).length : Int) = b := by
  rw [runL_len h.nn, shL_sum h o]
/-- running totals -/
def accL : Int → List Int → List Int
  | _, [] => []
  | a, x :: xs => (a + x) :: accL (a + x) xs
theorem accL_snoc : ∀ (xs : List Int) (a x : Int), accL a (xs ++ [x]) = accL a xs ++ [a + xs.sum + x]
  | [], a, x => by simp [accL]
  | y :: xs, a, x => by
    rw [List.cons_append, accL, accL, accL_snoc xs, List.cons_append, List.sum_cons]
    congr 3; omega
theorem accL_ge : ∀ {xs : List Int} {a x : Int}, (∀ n ∈ xs, 0 ≤ n) → x ∈ accL a xs → a ≤ x
  | [], _, _, _, h => by cases h
  | y :: xs, a, x, n, h => by
    have := n y (by simp)
    rcases List.mem_cons.mp h with w | w
    · omega
    · have := accL_ge (fun m hm => n m (by simp [hm])) w
      omega
theorem accL_len : ∀ (xs : List Int) (a : Int), (accL a xs).length = xs.length
  | [], _ => rfl
  | _ :: xs, a => by simp [accL, accL_len xs]
def bndL (as os : List Int) : List Int := accL 0 (shL as os.dropLast)
/-- between the two -/
def crs (b : Int) (p : Int × Int) : Bool := decide ((if p.2 < p.1 then p.2 else p.1) ≤ b) && decide (b < if p.2 > p.1 then p.2 else p.1)
theorem crs_iff {b x y : Int} : crs b (x, y) = true ↔ ¬ (x ≤ b ↔ y ≤ b) := by
  unfold crs
  simp only [Bool.and_eq_true, decide_eq_true_eq]
  by_cases h1 : y < x
  · rw [if_pos h1, if_neg (by omega)]; omega
  · by_cases h2 : x < y
    · rw [if_neg h1, if_pos h2]; omega
    · rw [if_neg h1, if_neg (by omega)]; omega
theorem getD_app {α : Type} {l m : List α} {i : Nat} {d : α} : (l ++ m).getD i d = if i < l.length then l.getD i d else m.getD (i - l.length) d := by
  by_cases h : i < l.length
  · rw [if_pos h]; simp [List.getD_eq_getElem?_getD, List.getElem?_append_left h]
  · rw [if_neg h]; simp [List.getD_eq_getElem?_getD, List.getElem?_append_right (Nat.le_of_not_lt h)]
theorem rep_get {m i : Nat} {x : Int} (h : i < m) : (List.replicate m x).getD i 0 = x := by simp [List.getD_eq_getElem?_getD, h]
theorem runL_at_mem {as os : List Int} {i : Nat} (h : i < (runL as os).length) : (runL as os).getD i 0 ∈ os := by
  rw [List.getD_eq_getElem?_getD, List.getElem?_eq_getElem h]
  exact runL_mem (List.getElem_mem h)
theorem cross {as cs : List Int} (ha : ∀ n ∈ as, 0 ≤ n) (hc : ∀ n ∈ cs, 0 ≤ n) : ∀ {os : List Int} {p q b : Int}, os.Nodup → p ≤ b → q ≤ b → b < p + (shL as os).sum → b < q + (shL cs os).sum →
    ((runL as os).getD (b - p).toNat 0 ≠ (runL cs os).getD (b - q).toNat 0 ↔ ((accL p (shL as os.dropLast)).zip (accL q (shL cs os.dropLast))).any (crs b) = true)
  | [], p, q, b, _, h1, _, h3, _ => by simp [shL] at h3; omega
  | [o], p, q, b, _, h1, h2, h3, h4 => by
    simp only [shL, List.map_cons, List.map_nil, List.sum_cons, List.sum_nil] at h3 h4
    have e1 : (runL as [o]).getD (b - p).toNat 0 = o := by
      rw [show runL as [o] = List.replicate (gI as o).toNat o by simp [runL]]
      exact rep_get (by omega)
    have e2 : (runL cs [o]).getD (b - q).toNat 0 = o := by
      rw [show runL cs [o] = List.replicate (gI cs o).toNat o by simp [runL]]
      exact rep_get (by omega)
    rw [e1, e2]
    simp [shL, accL]
  | o :: o2 :: r, p, q, b, nd, h1, h2, h3, h4 => by
    have nd' := List.nodup_cons.mp nd
    have a0 := gI_nn ha o
    have c0 := gI_nn hc o
    have t3 : (shL as (o :: o2 :: r)).sum = gI as o + (shL as (o2 :: r)).sum := by simp [shL]
    have t4 : (shL cs (o :: o2 :: r)).sum = gI cs o + (shL cs (o2 :: r)).sum := by simp [shL]
    rw [t3] at h3
    rw [t4] at h4
    have dl : (o :: o2 :: r).dropLast = o :: (o2 :: r).dropLast := rfl
    have z1 : accL p (shL as (o :: o2 :: r).dropLast) = (p + gI as o) :: accL (p + gI as o) (shL as (o2 :: r).dropLast) := by rw [dl]; rfl
    have z2 : accL q (shL cs (o :: o2 :: r).dropLast) = (q + gI cs o) :: accL (q + gI cs o) (shL cs (o2 :: r).dropLast) := by rw [dl]; rfl
    rw [z1, z2, List.zip_cons_cons, List.any_cons, Bool.or_eq_true, crs_iff, runL_cons (as := as) (o := o), runL_cons (as := cs) (o := o), getD_app, getD_app, List.length_replicate, List.length_replicate]
    have l1 := runL_len ha (o2 :: r)
    have l2 := runL_len hc (o2 :: r)
    by_cases w1 : b < p + gI as o
    · by_cases w2 : b < q + gI cs o
      · rw [if_pos (by omega), if_pos (by omega), rep_get (by omega), rep_get (by omega)]
        constructor
        · intro h; exact absurd rfl h
        · rintro (h | h)
          · exact absurd ⟨fun z => by omega, fun z => by omega⟩ h
          · obtain ⟨⟨x, y⟩, hm, hx⟩ := List.any_eq_true.mp h
            have m := List.of_mem_zip hm
            have g1 := accL_ge (fun n hn => by obtain ⟨i, _, rfl⟩ := List.mem_map.mp hn; exact gI_nn ha i) m.1
            have g2 := accL_ge (fun n hn => by obtain ⟨i, _, rfl⟩ := List.mem_map.mp hn; exact gI_nn hc i) m.2
            exact absurd ⟨fun z => by omega, fun z => by omega⟩ (crs_iff.mp hx)
      · rw [if_pos (by omega), if_neg (by omega), rep_get (by omega)]
        constructor
        · intro _; exact .inl fun z => by omega
        · intro _ e
          have := runL_at_mem (as := cs) (os := o2 :: r) (i := (b - q).toNat - (gI cs o).toNat) (by omega)
          rw [← e] at this
          exact nd'.1 this
    · by_cases w2 : b < q + gI cs o
      · rw [if_neg (by omega), if_pos (by omega), rep_get (by omega)]
        constructor
        · intro _; exact .inl fun z => by omega
        · intro _ e
          have := runL_at_mem (as := as) (os := o2 :: r) (i := (b - p).toNat - (gI as o).toNat) (by omega)
          rw [e] at this
          exact nd'.1 this
      · rw [if_neg (by omega), if_neg (by omega)]
        have ih := cross ha hc (os := o2 :: r) (p := p + gI as o) (q := q + gI cs o) (b := b) nd'.2 (by omega) (by omega) (by omega) (by omega)
        have s1 : (b - p).toNat - (gI as o).toNat = (b - (p + gI as o)).toNat := by omega
        have s2 : (b - q).toNat - (gI cs o).toNat = (b - (q + gI cs o)).toNat := by omega
        rw [s1, s2, ih]
        constructor
        · exact .inr
        · rintro (h | h)
          · exact absurd ⟨fun _ => by omega, fun _ => by omega⟩ h
          · exact h
/-- how many buckets lie between boundaries -/
def btwN (as cs os : List Int) (n : Nat) : Int := ((List.range n).map fun (i : Nat) => if ((bndL as os).zip (bndL cs os)).any (crs (i : Int)) = true then (1 : Int) else 0).sum
theorem btwN_succ {as cs os : List Int} {n : Nat} : btwN as cs os (n + 1) = btwN as cs os n + if ((bndL as os).zip (bndL cs os)).any (crs (n : Int)) = true then (1 : Int) else 0 := by
  unfold btwN
  rw [List.range_succ, List.map_append, List.sum_append]; simp
theorem btw_churn {as cs os : List Int} {v b : Int} (ha : Alc as v b) (hc : Alc cs v b) (o : IsOrd os v) : btwN as cs os b.toNat = zs ne1 (runL as os) (runL cs os) := by
  have l1 := runL_length ha o
  have l2 := runL_length hc o
  unfold btwN zs
  rw [show (runL as os).length = b.toNat by omega]
  congr 1
  apply List.map_congr_left
  intro i hi
  have hi' := List.mem_range.mp hi
  have key := cross ha.nn hc.nn (os := os) (p := 0) (q := 0) (b := (i : Int)) o.nd (by omega) (by omega) (by rw [shL_sum ha o]; omega) (by rw [shL_sum hc o]; omega)
  have e0 : ((i : Int) - 0).toNat = i := by omega
  rw [e0] at key
  unfold bndL ne1
  by_cases w : (runL as os).getD i 0 = (runL cs os).getD i 0
  · rw [if_pos w, if_neg fun z => (key.mpr z) w]
  · rw [if_neg w, if_pos (key.mp w)]
/-- how many buckets have this variant in both -/
def bothN (f g : List Int) (o : Int) : Int := ((f.zip g).countP fun p => decide (p.1 = o) && decide (p.2 = o) : Nat)
theorem one_sum (p : Int × Int) : ∀ {os : List Int}, os.Nodup → (os.map fun o => if (decide (p.1 = o) && decide (p.2 = o)) = true then (1 : Int) else 0).sum = if p.1 = p.2 ∧ p.1 ∈ os then 1 else 0
  | [], _ => by simp
  | o :: os, nd => by
    have nd' := List.nodup_cons.mp nd
    rw [List.map_cons, List.sum_cons, one_sum p nd'.2]
    by_cases h1 : p.1 = p.2
    · by_cases h2 : p.1 = o
      · have h3 : p.2 = o := h1.symm.trans h2
        have h4 : p.1 ∉ os := by rw [h2]; exact nd'.1
        rw [if_pos (by simp [h2, h3]), if_neg (fun z => h4 z.2), if_pos ⟨h1, by simp [h2]⟩]; rfl
      · rw [if_neg (by simp [h2]), Int.zero_add]
        by_cases h4 : p.1 ∈ os
        · rw [if_pos ⟨h1, h4⟩, if_pos ⟨h1, by simp [h4]⟩]
        · rw [if_neg (fun z => h4 z.2), if_neg (fun z => by rcases List.mem_cons.mp z.2 with w | w; exact h2 w; exact h4 w)]
    · have n : ¬ (decide (p.1 = o) && decide (p.2 = o)) = true := by
        rw [Bool.and_eq_true, decide_eq_true_eq, decide_eq_true_eq]
        rintro ⟨z1, z2⟩; exact h1 (z1.trans z2.symm)
      rw [if_neg n, if_neg (fun z => h1 z.1), if_neg (fun z => h1 z.1)]; rfl
theorem both_sum {os : List Int} (nd : os.Nodup) : ∀ {f g : List Int}, f.length = g.length → (∀ x ∈ f, x ∈ os) → (os.map fun o => bothN f g o).sum + zs ne1 f g = f.length
  | [], [], _, _ => by
    have : ∀ l : List Int, (l.map fun o => bothN [] [] o).sum = 0 := fun l => by
      induction l with
      | nil => rfl
      | cons a l ih => rw [List.map_cons, List.sum_cons, ih]; rfl
    rw [this]; rfl
  | a :: f, b :: g, h, m => by
    have ih := both_sum nd (f := f) (g := g) (by simpa using h) fun x hx => m x (by simp [hx])
    have e : ∀ o, bothN (a :: f) (b :: g) o = (if (decide (a = o) && decide (b = o)) = true then (1 : Int) else 0) + bothN f g o := fun o => by
      unfold bothN
      rw [List.zip_cons_cons, List.countP_cons]
      by_cases w : (decide (a = o) && decide (b = o)) = true
      · rw [if_pos w, if_pos w]; omega
      · rw [if_neg w, if_neg w]; omega
    have e2 : (os.map fun o => bothN (a :: f) (b :: g) o) = os.map fun o => (if (decide (a = o) && decide (b = o)) = true then (1 : Int) else 0) + bothN f g o := List.map_congr_left fun o _ => e o
    rw [e2, sum_add (fun o => if (decide (a = o) && decide (b = o)) = true then (1 : Int) else 0) (fun o => bothN f g o), one_sum (a, b) nd, zs_cons]
    have ma : a ∈ os := m a (by simp)
    have lc : ((a :: f).length : Int) = f.length + 1 := by simp
    rw [lc]
    by_cases w : a = b
    · rw [if_pos ⟨w, ma⟩, show ne1 a b = 0 from if_pos w]; omega
    · rw [if_neg (fun z => w z.1), show ne1 a b = 1 from if_neg w]; omega
/-! promises -/
def sp_one_after_another (K : PySem.W.Frag) : Sp := spD K fun ds k d => ∃ (as os : List Int) (v b : Int), ds = [.tuple (as.map .int), .tuple (os.map .int)] ∧ Alc as v b ∧ IsOrd os v ∧ v ≤ 1000 ∧ b ≤ 1000 ∧ k = .v ∧ d = .tuple ((runL as os).map .int)
def sp__law_intervals (K : PySem.W.Frag) : Sp := spD K fun ds k d => ∃ (as os : List Int) (v b : Int), ds = [.tuple (as.map .int), .tuple (os.map .int)] ∧ Alc as v b ∧ IsOrd os v ∧ v ≤ 1000 ∧ b ≤ 1000 ∧ k = .v ∧ d = .tuple ((runL as os).map .int)
def sp_check_order (K : PySem.W.Frag) : Sp := spD K fun ds k d => ∃ (as os : List Int) (v : Int), ds = [.tuple (os.map .int), .tuple (as.map .int)] ∧ IsOrd os v ∧ (as.length : Int) = v ∧ v ≤ 1000 ∧ k = .v ∧ d = .none
def sp_check_ordered (K : PySem.W.Frag) : Sp := spD K fun ds k d => ∃ (as os : List Int) (v b : Int), ds = [.tuple (as.map .int), .tuple (os.map .int)] ∧ Alc as v b ∧ IsOrd os v ∧ 1 ≤ v ∧ v ≤ 5 ∧ b ≤ 20 ∧ k = .v ∧ d = .none
def sp_by_intervals (K : PySem.W.Frag) : Sp := spD K fun ds k d => ∃ (as os : List Int) (v b : Int), ds = [.tuple (as.map .int), .tuple (os.map .int)] ∧ Alc as v b ∧ IsOrd os v ∧ 1 ≤ v ∧ v ≤ 5 ∧ b ≤ 20 ∧ k = .v ∧ d = .tuple ((runL as os).map .int)
def sp_boundaries (K : PySem.W.Frag) : Sp := spD K fun ds k d => ∃ (as os : List Int) (v b : Int), ds = [.tuple (as.map .int), .tuple (os.map .int)] ∧ Alc as v b ∧ IsOrd os v ∧ 1 ≤ v ∧ v ≤ 5 ∧ b ≤ 20 ∧ k = .v ∧ d = .tuple ((bndL as os).map .int)
def sp_both_by_intervals (K : PySem.W.Frag) : Sp := spD K fun ds k d => ∃ (as cs os : List Int) (v b : Int), ds = [.tuple (as.map .int), .tuple (cs.map .int), .tuple (os.map .int)] ∧ Alc as v b ∧ Alc cs v b ∧ IsOrd os v ∧ 1 ≤ v ∧ v ≤ 5 ∧ b ≤ 20 ∧ k = .v ∧ d = .tuple [.tuple ((runL as os).map .int), .tuple ((runL cs os).map .int)]
def sp_interval_churn (K : PySem.W.Frag) : Sp := spD K fun ds k d => ∃ (as cs os : List Int) (v b : Int), ds = [.tuple (as.map .int), .tuple (cs.map .int), .tuple (os.map .int)] ∧ Alc as v b ∧ Alc cs v b ∧ IsOrd os v ∧ 1 ≤ v ∧ v ≤ 5 ∧ b ≤ 20 ∧ k = .v ∧ d = .int (zs ne1 (runL as os) (runL cs os))
def sp_waste (K : PySem.W.Frag) : Sp := spD K fun ds k d => ∃ (as cs os : List Int) (v b : Int), ds = [.tuple (as.map .int), .tuple (cs.map .int), .tuple (os.map .int)] ∧ Alc as v b ∧ Alc cs v b ∧ IsOrd os v ∧ 1 ≤ v ∧ v ≤ 5 ∧ b ≤ 20 ∧ k = .v ∧ d = .int (zs ne1 (runL as os) (runL cs os) - trI as cs)
def sp__law_seriesE (K : PySem.W.Frag) : Sp := spS K fun ds k Q => ∃ v b n : Int, ds = [.int v, .int b, .int n] ∧ 1 ≤ v ∧ v ≤ 5 ∧ 0 ≤ b ∧ b ≤ 20 ∧ 1 ≤ n ∧ n ≤ 10 ∧ k = .v ∧ Q = fun d => ∃ A, d = .tuple (A.map tupD) ∧ Ser A v b ∧ (A.length : Int) = n
def sp__law_two (K : PySem.W.Frag) : Sp := spS K fun ds k Q => ds = [] ∧ k = .v ∧ Q = fun d => ∃ (f g os : List Int) (v b : Int), d = .tuple [.tuple (f.map .int), .tuple (g.map .int), .tuple (os.map .int)] ∧ Alc f v b ∧ Alc g v b ∧ IsOrd os v ∧ 1 ≤ v ∧ v ≤ 5 ∧ 0 ≤ b ∧ b ≤ 20
end Lm

/-! readings that the intervals want -/
namespace Lm
open PySem PySem.Spec PyProof.Rows L2
theorem ord_at {os : List Int} {v : Int} (o : IsOrd os v) {n : Nat} {a : Im} (h : (os.map imI)[n]? = some a) : ∃ (hn : n < os.length) (j : Nat), (j : Int) < v ∧ os.getD n 0 = (j : Int) ∧ a = imI (j : Int) := by
  have hn : n < os.length := by have := (List.getElem?_eq_some_iff.mp h).1; simpa using this
  rw [List.getElem?_map, List.getElem?_eq_getElem hn] at h
  have r := o.rng _ (List.getElem_mem hn)
  obtain ⟨j, e⟩ := Int.eq_ofNat_of_zero_le r.1
  refine ⟨hn, j, by omega, ?_, ?_⟩
  · rw [List.getD_eq_getElem?_getD, List.getElem?_eq_getElem hn]; exact e
  · rw [← e]; exact (Option.some.inj h).symm
theorem runL_take {as os : List Int} (n : Nat) : (runL as (os.take n)).length ≤ (runL as os).length := by
  have e : runL as os = runL as (os.take n) ++ runL as (os.drop n) := by
    conv => lhs; rw [← List.take_append_drop n os]
    unfold runL; rw [List.flatMap_append]
  rw [e, List.length_append]; omega
theorem cutD_last {α : Type} {ds : List α} : cutD ds none (some (-1)) = ds.dropLast := by
  show (ds.drop 0).take ((if (-1 : Int) < 0 then ((-1 : Int) + (ds.length : Int)).toNat else min (-1 : Int).toNat ds.length) - 0) = ds.dropLast
  rw [if_pos (by decide), List.drop_zero, List.dropLast_eq_take]
  congr 1
  omega
theorem Asg.up {ns : List Int} {v w : Int} (h : Asg ns v) (hw : v ≤ w) : Asg ns w := ⟨h.len, fun n hn => ⟨(h.rng n hn).1, by have := (h.rng n hn).2; omega⟩⟩
theorem zip_range {f g : List Int} (h : f.length = g.length) : f.zip g = (List.range f.length).map fun j => (f.getD j 0, g.getD j 0) := by
  apply List.ext_getElem
  · simp; omega
  · intro j h1 h2
    have a1 : j < f.length := by simp at h1; omega
    have a2 : j < g.length := by omega
    simp [List.getD_eq_getElem?_getD, a1, a2]
theorem both_filter {f g : List Int} (o : Int) (h : f.length = g.length) : (((upI 0 f.length).filter fun i => decide (gI f i = o) && decide (gI g i = o)).length : Int) = bothN f g o := by
  unfold bothN upI
  rw [zip_range h, List.countP_map, ← List.countP_eq_length_filter, List.countP_map]
  congr 1
  apply List.countP_congr
  intro j _
  simp [gI]
section
variable {c : Ct} {H H' H0 H1 H2 H3 : Hp} {O : List Addr} {Γ Γ' Γ1 : List (Option Rs)}
variable {te ta tb tx ty : TE} {k ka kb kc : Kd} {d x y z : PyData}
theorem n_tup3 {Pc : PyData → Prop} (ha : Ev c ta Γ .v x) (hb : Ev c tb Γ .v y) (hc : EvN c tx Γ .v Pc) : EvN c (tTupN (tCons ta (tCons tb (tCons tx tNil)))) Γ .v (fun d => ∃ z, d = .tuple [x, y, z] ∧ Pc z) := fun H0 O H σ e Q q =>
  ha H0 O H σ e _ fun v H1 r1 s1 => hb H0 O H1 σ (e.on r1) _ fun u H2 r2 s2 => hc H0 O H2 σ ((e.on r1).on r2) _ fun w z H3 pz r3 s3 => by
    have b1 : Bo c (mns H3 O) v x := Res.on (k := .v) e r1 (r2.tr r3) s1
    have b2 : Bo c (mns H3 O) u y := Res.on (k := .v) (e.on r1) r2 r3 s2
    have b3 : Bo c (mns H3 O) w z := s3
    refine ⟨by show 3 ≤ sizeLine; decide, newTk (c := c) fun p H4 hp sm tp => ?_⟩
    have r4 : Rr c H3 H4 := Rr.same sm
    have e3 := ((e.on r1).on r2).on r3
    exact q _ _ H4 ⟨z, rfl, pz⟩ (((r1.tr r2).tr r3).tr r4) (.tup (tpN_mns e3 r4 tp) ((BoAll.cons b1 (.cons b2 (.cons b3 .nil))).mono e3.j (r4.mns e3.j e3.okO)))
end
end Lm

/-! all assignments of an allocation, in order; the one whose places ascend -/
namespace Lm
open PySem PySem.Spec PyProof.Rows L2
theorem nodup_sub {α : Type} [DecidableEq α] : ∀ {l m : List α}, l.Nodup → (∀ x ∈ l, x ∈ m) → l.length ≤ m.length
  | [], _, _, _ => Nat.zero_le _
  | a :: l, m, nd, h => by
    have nd' := List.nodup_cons.mp nd
    have ha := h a (by simp)
    have ih := nodup_sub (m := m.erase a) nd'.2 fun x hx => (List.mem_erase_of_ne (fun z => nd'.1 (by rw [← z]; exact hx))).mpr (h x (by simp [hx]))
    rw [List.length_erase_of_mem ha] at ih
    have := List.length_pos_of_mem ha
    simp only [List.length_cons]; omega
theorem perm_of_count {r m : List Int} (hc : ∀ x, r.count x ≤ m.count x) (hl : m.length ≤ r.length) : r.Perm m := by
  induction r generalizing m with
  | nil =>
    have : m = [] := List.eq_nil_of_length_eq_zero (by simpa using hl)
    rw [this]
  | cons a r ih =>
    have ha : a ∈ m := by
      have := hc a
      rw [List.count_cons_self] at this
      exact List.count_pos_iff.mp (by omega)
    refine (List.Perm.cons a (ih (m := m.erase a) (fun x => ?_) ?_)).trans (List.perm_cons_erase ha).symm
    · have h1 := hc x
      rw [List.count_erase]
      by_cases e : a = x
      · subst e
        rw [List.count_cons_self] at h1
        simp; omega
      · rw [List.count_cons_of_ne e] at h1
        rw [if_neg (by simpa using e)]; omega
    · rw [List.length_erase_of_mem ha]
      simp only [List.length_cons] at hl; omega
/-- what may come behind r -/
def nxtA (as r : List Int) : List Int := (upI 0 as.length).filter fun x => decide ((r.count x : Int) < gI as x)
def asgN (as : List Int) : Nat → List (List Int)
  | 0 => [[]]
  | n + 1 => (asgN as n).flatMap fun r => (nxtA as r).map fun x => r ++ [x]
theorem mem_asgN {as : List Int} (nn : ∀ n ∈ as, 0 ≤ n) : ∀ (n : Nat) (r : List Int), r ∈ asgN as n ↔ r.length = n ∧ (∀ x ∈ r, 0 ≤ x ∧ x < as.length) ∧ ∀ x, (r.count x : Int) ≤ gI as x
  | 0, r => by
    constructor
    · intro h
      have : r = [] := by simpa [asgN] using h
      subst this
      exact ⟨rfl, fun _ h => (nomatch h), fun x => by have := gI_nn nn x; simpa using this⟩
    · rintro ⟨h, _⟩
      rw [List.eq_nil_of_length_eq_zero h]
      simp [asgN]
  | n + 1, r => by
    unfold asgN
    rw [List.mem_flatMap]
    constructor
    · rintro ⟨q, hq, h⟩
      obtain ⟨x, hx, rfl⟩ := List.mem_map.mp h
      obtain ⟨h1, h2, h3⟩ := (mem_asgN nn n q).mp hq
      obtain ⟨hx1, hx2⟩ := List.mem_filter.mp hx
      have hx3 := of_decide_eq_true hx2
      have hx4 := mem_upI.mp hx1
      refine ⟨by simp [h1], fun y hy => ?_, fun y => ?_⟩
      · rcases List.mem_append.mp hy with w | w
        · exact h2 y w
        · rw [List.mem_singleton.mp w]; exact hx4
      · rw [List.count_append]
        by_cases e : x = y
        · subst e
          simp only [List.count_cons_self, List.count_nil]; omega
        · rw [List.count_cons_of_ne e, List.count_nil]
          exact h3 y
    · rintro ⟨h1, h2, h3⟩
      have hne : r ≠ [] := fun z => by rw [z] at h1; simp at h1
      have el := List.dropLast_concat_getLast hne
      obtain ⟨q, eq⟩ : ∃ q, q = r.dropLast := ⟨_, rfl⟩
      obtain ⟨x, ex⟩ : ∃ x, x = r.getLast hne := ⟨_, rfl⟩
      rw [← eq, ← ex] at el
      have cx : ∀ y, r.count y = q.count y + [x].count y := fun y => by rw [← el, List.count_append]
      have xr : x ∈ r := by rw [← el]; simp
      refine ⟨q, (mem_asgN nn n q).mpr ⟨by rw [eq, List.length_dropLast]; omega, fun y hy => h2 y (by rw [← el]; simp [hy]), fun y => by have := h3 y; have := cx y; omega⟩, List.mem_map.mpr ⟨x, List.mem_filter.mpr ⟨mem_upI.mpr (h2 x xr), decide_eq_true ?_⟩, el⟩⟩
      have a1 := h3 x
      have a2 := cx x
      rw [List.count_cons_self, List.count_nil] at a2
      omega
theorem asgN_pw (as : List Int) : ∀ n, (asgN as n).Pairwise lexLt
  | 0 => List.pairwise_singleton ..
  | n + 1 => by
    unfold asgN
    rw [List.pairwise_flatMap]
    refine ⟨fun r _ => ?_, (asgN_pw as n).imp fun {a b} h x hx y hy => ?_⟩
    · rw [List.pairwise_map]
      exact ((upI_pw _).sublist List.filter_sublist).imp fun h => lexLt_last h
    · obtain ⟨i, _, rfl⟩ := List.mem_map.mp hx
      obtain ⟨j, _, rfl⟩ := List.mem_map.mp hy
      exact lexLt_app h
theorem asgN_small {as : List Int} (nn : ∀ n ∈ as, 0 ≤ n) (hl : as.length ≤ 5) {n : Nat} (hn : n ≤ 6) : (asgN as n).length ≤ 15625 := by
  refine Nat.le_trans (nodup_sub (m := allL (as.length : Int) n) (pw_nodup (asgN_pw as n)) fun r hr => ?_) (allL_small5 (by omega) hn)
  obtain ⟨h1, h2, _⟩ := (mem_asgN nn n r).mp hr
  exact (mem_allL (by omega) n r).mpr ⟨h1, h2⟩
/-- its sorted list -/
def sortI (ns : List Int) : List Int := ns.mergeSort fun a b => decide (a ≤ b)
theorem sortI_pw (ns : List Int) : (sortI ns).Pairwise (· ≤ ·) := by
  have := List.pairwise_mergeSort (le := fun a b : Int => decide (a ≤ b)) (fun a b c h1 h2 => by simp at *; omega) (fun a b => by simp; omega) ns
  exact this.imp fun h => of_decide_eq_true h
theorem sortI_perm (ns : List Int) : (sortI ns).Perm ns := List.mergeSort_perm ..
theorem sortI_eq {ms ns : List Int} (p : ms.Perm ns) (w : ms.Pairwise (· ≤ ·)) : ms = sortI ns :=
  List.Perm.eq_of_pairwise (fun a b _ _ h1 h2 => Int.le_antisymm h1 h2) w (sortI_pw ns) (p.trans (sortI_perm ns).symm)
theorem sortI_self {ns : List Int} : sortI ns = ns ↔ ns.Pairwise (· ≤ ·) := ⟨fun h => h ▸ sortI_pw ns, fun h => (sortI_eq (List.Perm.refl _) h).symm⟩
/-- the places that ascend -/
theorem runL_count {as : List Int} (nn : ∀ n ∈ as, 0 ≤ n) : ∀ {os : List Int}, os.Nodup → ∀ o, ((runL as os).count o : Int) = if o ∈ os then gI as o else 0
  | [], _, o => by simp [runL]
  | p :: os, nd, o => by
    have nd' := List.nodup_cons.mp nd
    have ih := runL_count nn nd'.2 o
    have g0 := gI_nn nn o
    rw [runL_cons, List.count_append, List.count_replicate, Int.natCast_add, ih]
    by_cases e : p = o
    · subst e
      rw [if_neg nd'.1, if_pos (by simp), if_pos (by simp)]; omega
    · rw [if_neg (by simpa using e), Int.natCast_zero, Int.zero_add]
      by_cases m : o ∈ os
      · rw [if_pos m, if_pos (by simp [m])]
      · rw [if_neg m, if_neg (fun z => by rcases List.mem_cons.mp z with w | w; exact e w.symm; exact m w)]
theorem runL_pw {as os : List Int} {v : Int} (o : IsOrd os v) : (runL as os).Pairwise fun a b => os.idxOf a ≤ os.idxOf b := by
  unfold runL
  rw [List.pairwise_flatMap]
  refine ⟨fun a _ => ?_, ?_⟩
  · rw [List.pairwise_iff_getElem]
    intro i j hi hj _
    simp
  · rw [List.pairwise_iff_getElem]
    intro i j hi hj hij x hx y hy
    rw [(List.mem_replicate.mp hx).2, (List.mem_replicate.mp hy).2, o.idxOf_get hi, o.idxOf_get hj]
    omega
def plcL (os r : List Int) : List Int := r.map fun x => (os.idxOf x : Int)
theorem plc_only {as os r : List Int} {v b : Int} (h : Alc as v b) (o : IsOrd os v) (hr : r ∈ asgN as b.toNat) : (plcL os r).Pairwise (· ≤ ·) ↔ r = runL as os := by
  obtain ⟨h1, h2, h3⟩ := (mem_asgN h.nn _ r).mp hr
  have hl := h.len
  have ol := o.len
  have rl := runL_length h o
  have b0 : 0 ≤ b := by rw [← h.sum]; exact sum_nn h.nn
  constructor
  · intro pw
    have mo : ∀ x ∈ r, x ∈ os := fun x hx => o.mem (h2 x hx).1 (by have := (h2 x hx).2; omega)
    -- counts agree: each is at most the share, and the totals agree
    have cle : ∀ x, r.count x ≤ (runL as os).count x := fun x => by
      have c1 := runL_count h.nn o.nd x
      by_cases m : x ∈ os
      · rw [if_pos m] at c1
        have := h3 x
        omega
      · rw [List.count_eq_zero_of_not_mem fun z => m (mo x z)]; omega
    have sp : r.Perm (runL as os) := perm_of_count cle (by omega)
    have p2 : (plcL os r).Perm (plcL os (runL as os)) := sp.map _
    have pw2 : (plcL os (runL as os)).Pairwise (· ≤ ·) := by
      unfold plcL
      rw [List.pairwise_map]
      exact (runL_pw o).imp fun h => by omega
    have e := List.Perm.eq_of_pairwise (fun a b _ _ h1 h2 => Int.le_antisymm h1 h2) pw pw2 p2
    have inj : ∀ {l m : List Int}, (∀ x ∈ l, x ∈ os) → (∀ x ∈ m, x ∈ os) → plcL os l = plcL os m → l = m := by
      intro l
      induction l with
      | nil =>
        intro m _ _ e
        cases m with
        | nil => rfl
        | cons y m => simp [plcL] at e
      | cons x l ih =>
        intro m hl hm e
        cases m with
        | nil => simp [plcL] at e
        | cons y m =>
          simp only [plcL, List.map_cons, List.cons.injEq] at e
          have ix : os.idxOf x = os.idxOf y := by have := e.1; omega
          have lx := List.idxOf_lt_length_of_mem (hl x (by simp))
          have exy : x = y := by
            have e1 := List.getElem_idxOf lx
            have ly := List.idxOf_lt_length_of_mem (hm y (by simp))
            have e2 := List.getElem_idxOf ly
            rw [← e1, ← e2]
            simp only [ix]
          rw [exy, ih (fun z hz => hl z (by simp [hz])) (fun z hz => hm z (by simp [hz])) e.2]
    exact inj mo (fun x hx => runL_mem hx) e
  · intro e
    rw [e]
    unfold plcL
    rw [List.pairwise_map]
    exact (runL_pw o).imp fun h => by omega
theorem runL_in {as os : List Int} {v b : Int} (h : Alc as v b) (o : IsOrd os v) : runL as os ∈ asgN as b.toNat := by
  have hl := h.len
  have rl := runL_length h o
  refine (mem_asgN h.nn _ _).mpr ⟨by omega, fun x hx => ?_, fun x => ?_⟩
  · have := o.rng x (runL_mem hx); omega
  · rw [runL_count h.nn o.nd x]
    have := gI_nn h.nn x
    split <;> omega
theorem filter_one {α : Type} [DecidableEq α] {l : List α} {x : α} (nd : l.Nodup) (h : x ∈ l) : l.filter (fun y => decide (y = x)) = [x] := by
  induction l with
  | nil => cases h
  | cons a l ih =>
    have nd' := List.nodup_cons.mp nd
    by_cases e : a = x
    · subst e
      rw [List.filter_cons_of_pos (by simp)]
      congr 1
      rw [List.filter_eq_nil_iff]
      intro y hy
      simp only [decide_eq_true_eq]
      intro z; rw [z] at hy; exact nd'.1 hy
    · rw [List.filter_cons_of_neg (by simpa using e)]
      rcases List.mem_cons.mp h with w | w
      · exact absurd w.symm e
      · exact ih nd'.2 w
theorem asc_one {as os : List Int} {v b : Int} (h : Alc as v b) (o : IsOrd os v) : (asgN as b.toNat).filter (fun r => decide (sortI (plcL os r) = plcL os r)) = [runL as os] := by
  have e : (asgN as b.toNat).filter (fun r => decide (sortI (plcL os r) = plcL os r)) = (asgN as b.toNat).filter fun r => decide (r = runL as os) := by
    apply List.filter_congr
    intro r hr
    rw [decide_eq_decide, sortI_self, plc_only h o hr]
  rw [e, filter_one (pw_nodup (asgN_pw _ _)) (runL_in h o)]
section
variable {c : Ct} {Γ : List (Option Rs)} {te : TE} {k : Kd}
theorem e_sortedL {ns : List Int} (h : Ev c te Γ k (.list (ns.map .int))) (hl : ns.length < 64) : Ev c (tCB (rSortedA c.K) (tCons te tNil)) Γ .o (.list ((sortI ns).map .int)) :=
  ((n_sortedL h hl).imp fun d ⟨ms, e, p, w⟩ => by rw [e, sortI_eq p w]).det
end
def sp__law_assignmentsA (K : PySem.W.Frag) : Sp := spD K fun ds k d => ∃ (as : List Int) (v b : Int), ds = [.tuple (as.map .int)] ∧ Alc as v b ∧ 1 ≤ v ∧ v ≤ 5 ∧ b ≤ 6 ∧ k = .o ∧ d = .list ((asgN as b.toNat).map tupD)
end Lm

/-! intervals: bounds of their churn, and when nothing is wasted -/
namespace Lm
open PySem PySem.Spec PyProof.Rows L2
variable {as cs os : List Int} {v b : Int}
theorem runL_counts (h : Alc as v b) (o : IsOrd os v) : countsI (runL as os) v = as := by
  have hl := h.len
  apply List.ext_getElem
  · simp [countsI, upI]; omega
  · intro j h1 h2
    have hj : (j : Int) < v := by omega
    have e := countsI_get (ns := runL as os) hj
    rw [List.getD_eq_getElem?_getD, List.getElem?_eq_getElem h1] at e
    have e' : (countsI (runL as os) v)[j] = ((runL as os).count (j : Int) : Int) := e
    rw [e', runL_count h.nn o.nd, if_pos (o.mem (by omega) hj)]
    simp [gI, h2]
theorem int_ge (ha : Alc as v b) (hc : Alc cs v b) (o : IsOrd os v) (hb : b ≤ 20) (hv : 0 ≤ v) : trI as cs ≤ zs ne1 (runL as os) (runL cs os) := by
  have l1 := runL_length ha o
  have l2 := runL_length hc o
  have := churn_ge (runL_asg ha o hb) (runL_asg hc o hb) (by omega) hv
  rwa [runL_counts ha o, runL_counts hc o] at this
/-! the other bound -/
def abD (x y : Int) : Int := if x < y then y - x else x - y
theorem abD_nn {x y : Int} : 0 ≤ abD x y := by unfold abD; split <;> omega
theorem crs_count (x y : Int) : ∀ n : Nat, ((List.range n).map fun (i : Nat) => if crs (i : Int) (x, y) = true then (1 : Int) else 0).sum ≤ abD x y := by
  have key : ∀ n : Nat, ((List.range n).map fun (i : Nat) => if crs (i : Int) (x, y) = true then (1 : Int) else 0).sum ≤ max 0 (min (n : Int) (max x y) - min x y) := fun n => by
    induction n with
    | zero => simp; omega
    | succ n ih =>
      rw [List.range_succ, List.map_append, List.sum_append, List.map_singleton, List.sum_singleton]
      by_cases w : crs (n : Int) (x, y) = true
      · rw [if_pos w]
        have := crs_iff.mp w
        omega
      · rw [if_neg w]
        omega
  intro n
  have := key n
  unfold abD
  split <;> omega
theorem any_count : ∀ (l : List (Int × Int)) (n : Nat), ((List.range n).map fun (i : Nat) => if l.any (crs (i : Int)) = true then (1 : Int) else 0).sum ≤ (l.map fun p => abD p.1 p.2).sum
  | [], n => by
    have : ∀ m : List Nat, (m.map fun (i : Nat) => if ([] : List (Int × Int)).any (crs (i : Int)) = true then (1 : Int) else 0).sum = 0 := fun m => by
      induction m with
      | nil => rfl
      | cons a m ih => rw [List.map_cons, List.sum_cons, ih]; rfl
    rw [this]; exact Int.le_refl _
  | p :: l, n => by
    have ih := any_count l n
    have c : ((List.range n).map fun (i : Nat) => if crs (i : Int) p = true then (1 : Int) else 0).sum ≤ abD p.1 p.2 := crs_count p.1 p.2 n
    have le : ∀ m : List Nat, (m.map fun (i : Nat) => if (p :: l).any (crs (i : Int)) = true then (1 : Int) else 0).sum ≤ (m.map fun (i : Nat) => if crs (i : Int) p = true then (1 : Int) else 0).sum + (m.map fun (i : Nat) => if l.any (crs (i : Int)) = true then (1 : Int) else 0).sum := fun m => by
      induction m with
      | nil => exact Int.le_refl _
      | cons a m ih =>
        simp only [List.map_cons, List.sum_cons]
        have : (if (p :: l).any (crs (a : Int)) = true then (1 : Int) else 0) ≤ (if crs (a : Int) p = true then (1 : Int) else 0) + (if l.any (crs (a : Int)) = true then (1 : Int) else 0) := by
          rw [List.any_cons]
          by_cases w1 : crs (a : Int) p = true <;> by_cases w2 : l.any (crs (a : Int)) = true <;> simp [w1, w2]
        omega
    have := le (List.range n)
    rw [List.map_cons, List.sum_cons]
    omega
theorem sum_nnM {α : Type} {F : α → Int} (h : ∀ x, 0 ≤ F x) : ∀ l : List α, 0 ≤ (l.map F).sum
  | [] => Int.le_refl _
  | a :: l => by rw [List.map_cons, List.sum_cons]; have := h a; have := sum_nnM h l; omega
theorem acc_near {F G : Int → Int} {T : Int} : ∀ {P : List Int} {p q : Int}, (p - q) + (P.map fun o => t0 (F o) (G o)).sum ≤ T → -T ≤ (p - q) - (P.map fun o => t0 (G o) (F o)).sum →
    ∀ x ∈ (accL p (P.map F)).zip (accL q (P.map G)), abD x.1 x.2 ≤ T
  | [], _, _, _, _, x, hx => by simp [accL] at hx
  | o :: P, p, q, h1, h2, x, hx => by
    simp only [List.map_cons, List.sum_cons] at h1 h2
    have n1 := sum_nnM (F := fun o => t0 (F o) (G o)) (fun _ => t0_nn _ _) P
    have n2 := sum_nnM (F := fun o => t0 (G o) (F o)) (fun _ => t0_nn _ _) P
    have a1 : F o - G o ≤ t0 (F o) (G o) := by unfold t0; split <;> omega
    have a2 : G o - F o ≤ t0 (G o) (F o) := by unfold t0; split <;> omega
    simp only [List.map_cons, accL, List.zip_cons_cons] at hx
    rcases List.mem_cons.mp hx with e | e
    · rw [e]
      unfold abD
      split <;> omega
    · exact acc_near (P := P) (p := p + F o) (q := q + G o) (by omega) (by omega) x e
theorem t0_sum (o : IsOrd os v) (ha : (as.length : Int) = v) (hc : (cs.length : Int) = v) : (os.map fun o => t0 (gI as o) (gI cs o)).sum = zs t0 as cs := by
  have ol := o.len
  have p : ((upI 0 os.length).map fun o => t0 (gI as o) (gI cs o)).sum = (os.map fun o => t0 (gI as o) (gI cs o)).sum := perm_sum (o.perm.map _)
  rw [← p]
  unfold zs upI
  rw [List.map_map, show os.length = as.length by omega]
  congr 1
  apply List.map_congr_left
  intro j _
  simp [gI]
theorem sum_le {T : Int} : ∀ {l : List (Int × Int)}, (∀ x ∈ l, abD x.1 x.2 ≤ T) → (l.map fun p => abD p.1 p.2).sum ≤ l.length * T
  | [], _ => by simp
  | a :: l, h => by
    have h1 := h a (by simp)
    have ih := sum_le (l := l) fun x hx => h x (by simp [hx])
    rw [List.map_cons, List.sum_cons, List.length_cons, Int.natCast_add, Int.add_mul]
    omega
theorem dl_sum {F : Int → Int} (h : ∀ x, 0 ≤ F x) (l : List Int) : (l.dropLast.map F).sum ≤ (l.map F).sum := by
  by_cases e : l = []
  · rw [e]; exact Int.le_refl _
  · have := List.dropLast_concat_getLast e
    conv => rhs; rw [← this]
    rw [List.map_append, List.sum_append]
    have := sum_nnM h [l.getLast e]
    omega
theorem int_le (ha : Alc as v b) (hc : Alc cs v b) (o : IsOrd os v) (hv : 1 ≤ v) : zs ne1 (runL as os) (runL cs os) ≤ trI as cs * (v - 1) := by
  have la := ha.len
  have lc := hc.len
  have ol := o.len
  have b0 : 0 ≤ b := by rw [← ha.sum]; exact sum_nn ha.nn
  rw [← btw_churn ha hc o]
  have e1 : trI as cs = zs t0 as cs := trI_zs (by omega)
  have e2 : zs t0 as cs - zs t0 cs as = as.sum - cs.sum := zs_sub (by omega)
  rw [ha.sum, hc.sum] at e2
  have s1 := t0_sum (as := as) (cs := cs) o la lc
  have s2 := t0_sum (as := cs) (cs := as) o lc la
  have d1 := dl_sum (F := fun o => t0 (gI as o) (gI cs o)) (fun _ => t0_nn _ _) os
  have d2 := dl_sum (F := fun o => t0 (gI cs o) (gI as o)) (fun _ => t0_nn _ _) os
  have near := acc_near (F := gI as) (G := gI cs) (T := trI as cs) (P := os.dropLast) (p := 0) (q := 0) (by omega) (by omega)
  have h1 := any_count ((bndL as os).zip (bndL cs os)) b.toNat
  have h2 := sum_le near
  have ll : ((accL 0 (os.dropLast.map (gI as))).zip (accL 0 (os.dropLast.map (gI cs)))).length = os.length - 1 := by simp [accL_len]
  rw [ll] at h2
  have h3 : ((os.length - 1 : Nat) : Int) = v - 1 := by omega
  rw [h3, Int.mul_comm] at h2
  exact Int.le_trans h1 h2
/-! both ways, and backwards -/
theorem zs_ne_comm : ∀ {f g : List Int}, f.length = g.length → zs ne1 g f = zs ne1 f g
  | [], [], _ => rfl
  | a :: f, c :: g, h => by
    rw [zs_cons, zs_cons, zs_ne_comm (by simpa using h)]
    unfold ne1
    by_cases e : a = c
    · rw [if_pos e, if_pos e.symm]
    · rw [if_neg e, if_neg (fun z => e z.symm)]
theorem zs_app {F : Int → Int → Int} {a c : Int} : ∀ {f g : List Int}, f.length = g.length → zs F (f ++ [a]) (g ++ [c]) = zs F f g + F a c
  | [], [], _ => by
    show zs F [a] [c] = zs F [] [] + F a c
    rw [zs_cons]
    show F a c + 0 = 0 + F a c
    omega
  | x :: f, y :: g, h => by
    rw [List.cons_append, List.cons_append, zs_cons, zs_cons, zs_app (by simpa using h)]; omega
theorem zs_rev {F : Int → Int → Int} : ∀ {f g : List Int}, f.length = g.length → zs F f.reverse g.reverse = zs F f g
  | [], [], _ => rfl
  | x :: f, y :: g, h => by
    have h' : f.length = g.length := by simpa using h
    rw [List.reverse_cons, List.reverse_cons, zs_app (by simpa using h'), zs_rev h', zs_cons]; omega
theorem runL_rev : ∀ os : List Int, runL as os.reverse = (runL as os).reverse
  | [] => rfl
  | o :: os => by
    rw [List.reverse_cons, runL_snoc, runL_cons, runL_rev os, List.reverse_append, List.reverse_replicate]
theorem ord_rev (o : IsOrd os v) : IsOrd os.reverse v := ⟨by rw [List.length_reverse]; exact o.len, (List.reverse_perm os).nodup_iff.mpr o.nd, fun n hn => o.rng n (List.mem_reverse.mp hn)⟩
/-! when nothing is wasted -/
/-- where the interval of the i-th variant begins -/
def preL (as os : List Int) (i : Nat) : Int := (shL as (os.take i)).sum
theorem preL_succ {i : Nat} (h : i < os.length) : preL as os (i + 1) = preL as os i + gI as (os.getD i 0) := by
  unfold preL shL
  rw [take_one h, List.map_append, List.sum_append]; simp
theorem preL_nn (nn : ∀ n ∈ as, 0 ≤ n) (i : Nat) : 0 ≤ preL as os i := sum_nnM (fun x => gI_nn nn x) _
theorem runL_at (nn : ∀ n ∈ as, 0 ≤ n) (nd : os.Nodup) {i j : Nat} (hi : i < os.length) (hj : j < (runL as os).length) : (runL as os).getD j 0 = os.getD i 0 ↔ preL as os i ≤ j ∧ (j : Int) < preL as os (i + 1) := by
  have e : os = os.take i ++ (os.getD i 0 :: os.drop (i + 1)) := by
    rw [List.getD_eq_getElem?_getD, List.getElem?_eq_getElem hi]
    show os = os.take i ++ (os[i] :: os.drop (i + 1))
    rw [← List.drop_eq_getElem_cons hi, List.take_append_drop]
  have er : runL as os = runL as (os.take i) ++ (List.replicate (gI as (os.getD i 0)).toNat (os.getD i 0) ++ runL as (os.drop (i + 1))) := by
    conv => lhs; rw [e]
    unfold runL; rw [List.flatMap_append]; rfl
  have nd' := nd
  rw [e, List.nodup_append] at nd'
  obtain ⟨_, nd2, nd3⟩ := nd'
  have nd4 := List.nodup_cons.mp nd2
  have l1 : ((runL as (os.take i)).length : Int) = preL as os i := runL_len nn _
  have g0 := gI_nn nn (os.getD i 0)
  rw [preL_succ hi]
  rw [er] at hj ⊢
  rw [List.length_append, List.length_append, List.length_replicate] at hj
  rw [getD_app]
  by_cases w1 : j < (runL as (os.take i)).length
  · rw [if_pos w1]
    constructor
    · intro z
      have m := runL_at_mem w1
      exact absurd z (nd3 _ m _ (by simp))
    · rintro ⟨z, _⟩; omega
  · rw [if_neg w1, getD_app, List.length_replicate]
    by_cases w2 : j - (runL as (os.take i)).length < (gI as (os.getD i 0)).toNat
    · rw [if_pos w2, rep_get w2]
      exact ⟨fun _ => ⟨by omega, by omega⟩, fun _ => rfl⟩
    · rw [if_neg w2]
      constructor
      · intro z
        have m := runL_at_mem (as := as) (os := os.drop (i + 1)) (i := j - (runL as (os.take i)).length - (gI as (os.getD i 0)).toNat) (by omega)
        rw [z] at m
        exact absurd m nd4.1
      · rintro ⟨_, z⟩; omega
theorem rng_count (lo hi : Int) (h0 : 0 ≤ lo) : ∀ n : Nat, ((List.range n).countP fun (j : Nat) => decide (lo ≤ (j : Int)) && decide ((j : Int) < hi) : Nat) = (max 0 (min (n : Int) hi - lo)).toNat := fun n => by
  induction n with
  | zero => simp; omega
  | succ n ih =>
    rw [List.range_succ, List.countP_append, ih, List.countP_singleton]
    by_cases w : (decide (lo ≤ (n : Int)) && decide ((n : Int) < hi)) = true
    · rw [if_pos w]
      rw [Bool.and_eq_true, decide_eq_true_iff, decide_eq_true_iff] at w
      omega
    · rw [if_neg w]
      rw [Bool.and_eq_true, decide_eq_true_iff, decide_eq_true_iff] at w
      omega
def ovlN (as cs os : List Int) (i : Nat) : Int := max 0 (min (preL as os (i + 1)) (preL cs os (i + 1)) - max (preL as os i) (preL cs os i))
theorem pre_le (nn : ∀ n ∈ as, 0 ≤ n) (os : List Int) (i : Nat) : preL as os i ≤ (shL as os).sum := by
  have e : (shL as os).sum = preL as os i + (shL as (os.drop i)).sum := by
    unfold preL shL
    rw [← List.sum_append, ← List.map_append, List.take_append_drop]
  have := sum_nnM (fun x => gI_nn nn x) (os.drop i)
  unfold shL at *
  omega
theorem both_ovl (ha : Alc as v b) (hc : Alc cs v b) (o : IsOrd os v) {i : Nat} (hi : i < os.length) : bothN (runL as os) (runL cs os) (os.getD i 0) = ovlN as cs os i := by
  have l1 := runL_length ha o
  have l2 := runL_length hc o
  have ll : (runL as os).length = (runL cs os).length := by omega
  have n1 := preL_nn (os := os) ha.nn i
  have n2 := preL_nn (os := os) hc.nn i
  have u1 := pre_le ha.nn os (i + 1)
  have u2 := pre_le hc.nn os (i + 1)
  rw [shL_sum ha o] at u1
  rw [shL_sum hc o] at u2
  unfold bothN
  rw [zip_range ll, List.countP_map]
  have cg : (List.range (runL as os).length).countP ((fun p : Int × Int => decide (p.1 = os.getD i 0) && decide (p.2 = os.getD i 0)) ∘ fun j => ((runL as os).getD j 0, (runL cs os).getD j 0)) =
      (List.range (runL as os).length).countP fun (j : Nat) => decide (max (preL as os i) (preL cs os i) ≤ (j : Int)) && decide ((j : Int) < min (preL as os (i + 1)) (preL cs os (i + 1))) := by
    apply List.countP_congr
    intro j hj
    have hj' := List.mem_range.mp hj
    have r1 := runL_at ha.nn o.nd hi hj'
    have r2 := runL_at hc.nn o.nd hi (show j < (runL cs os).length by omega)
    simp only [Function.comp, Bool.and_eq_true, decide_eq_true_iff]
    rw [r1, r2]
    omega
  rw [cg, rng_count _ _ (by omega)]
  unfold ovlN
  omega
/-- one of the two intervals lies within the other -/
def nstB (as cs os : List Int) (i : Nat) : Bool :=
  (decide (preL as os i = preL as os (i + 1)) || (decide (preL cs os i ≤ preL as os i) && decide (preL as os (i + 1) ≤ preL cs os (i + 1)))) ||
    (decide (preL cs os i = preL cs os (i + 1)) || (decide (preL as os i ≤ preL cs os i) && decide (preL cs os (i + 1) ≤ preL as os (i + 1))))
theorem nst_iff (ha : ∀ n ∈ as, 0 ≤ n) (hc : ∀ n ∈ cs, 0 ≤ n) {i : Nat} (hi : i < os.length) : nstB as cs os i = true ↔ ovlN as cs os i = min (gI as (os.getD i 0)) (gI cs (os.getD i 0)) := by
  have p1 := preL_succ (as := as) hi
  have p2 := preL_succ (as := cs) hi
  have g1 := gI_nn ha (os.getD i 0)
  have g2 := gI_nn hc (os.getD i 0)
  unfold nstB ovlN
  simp only [Bool.or_eq_true, Bool.and_eq_true, decide_eq_true_iff]
  omega
theorem ovl_le (ha : ∀ n ∈ as, 0 ≤ n) (hc : ∀ n ∈ cs, 0 ≤ n) {i : Nat} (hi : i < os.length) : ovlN as cs os i ≤ min (gI as (os.getD i 0)) (gI cs (os.getD i 0)) := by
  have p1 := preL_succ (as := as) hi
  have p2 := preL_succ (as := cs) hi
  have g1 := gI_nn ha (os.getD i 0)
  have g2 := gI_nn hc (os.getD i 0)
  unfold ovlN
  omega
theorem map_range (F : Int → Int) : os.map F = (List.range os.length).map fun i => F (os.getD i 0) := by
  apply List.ext_getElem
  · simp
  · intro j h1 h2
    have h3 : j < os.length := by simpa using h1
    simp [List.getD_eq_getElem?_getD, h3]
theorem waste_iff (ha : Alc as v b) (hc : Alc cs v b) (o : IsOrd os v) : zs ne1 (runL as os) (runL cs os) - trI as cs = 0 ↔ ∀ i, i < os.length → nstB as cs os i = true := by
  have la := ha.len
  have lc := hc.len
  have l1 := runL_length ha o
  have l2 := runL_length hc o
  have bs := both_sum o.nd (f := runL as os) (g := runL cs os) (by omega) fun x hx => runL_mem hx
  have e1 : trI as cs = zs t0 as cs := trI_zs (by omega)
  have s1 := t0_sum (as := as) (cs := cs) o la lc
  have sa := shL_sum ha o
  unfold shL at sa
  have m1 : (os.map fun o => bothN (runL as os) (runL cs os) o) = (List.range os.length).map fun i => ovlN as cs os i := by
    rw [map_range]
    apply List.map_congr_left
    intro i hi
    exact both_ovl ha hc o (List.mem_range.mp hi)
  rw [m1] at bs
  rw [map_range] at s1 sa
  have tot : ∀ l : List Nat, (∀ i ∈ l, i < os.length) → 0 ≤ (l.map fun i => gI as (os.getD i 0)).sum - (l.map fun i => ovlN as cs os i).sum - (l.map fun i => t0 (gI as (os.getD i 0)) (gI cs (os.getD i 0))).sum ∧
      ((l.map fun i => gI as (os.getD i 0)).sum - (l.map fun i => ovlN as cs os i).sum - (l.map fun i => t0 (gI as (os.getD i 0)) (gI cs (os.getD i 0))).sum = 0 ↔ ∀ i ∈ l, nstB as cs os i = true) := fun l hl => by
    induction l with
    | nil => simp
    | cons a l ih =>
      have ha' := hl a (by simp)
      obtain ⟨ih1, ih2⟩ := ih fun i hi => hl i (by simp [hi])
      have n1 := nst_iff (os := os) ha.nn hc.nn ha'
      have n2 := ovl_le (os := os) ha.nn hc.nn ha'
      have tm : t0 (gI as (os.getD a 0)) (gI cs (os.getD a 0)) = gI as (os.getD a 0) - min (gI as (os.getD a 0)) (gI cs (os.getD a 0)) := by unfold t0; split <;> omega
      simp only [List.map_cons, List.sum_cons]
      refine ⟨by omega, ?_⟩
      constructor
      · intro z i hi
        rcases List.mem_cons.mp hi with w | w
        · rw [w]; exact n1.mpr (by omega)
        · exact ih2.mp (by omega) i w
      · intro z
        have z1 := n1.mp (z a (by simp))
        have z2 := ih2.mpr fun i hi => z i (by simp [hi])
        omega
  obtain ⟨_, t2⟩ := tot (List.range os.length) fun i hi => List.mem_range.mp hi
  constructor
  · intro z i hi
    exact t2.mp (by omega) i (List.mem_range.mpr hi)
  · intro z
    have := t2.mpr fun i hi => z i (List.mem_range.mp hi)
    omega
end Lm

/-! the first history: each step's first change is the least one -/
namespace Lm
open PySem PySem.Spec PyProof.Rows L2
variable {v b : Int} {A T : List (List Int)} {as f r : List Int} {n : Nat}
theorem asgN_cnt (h : Alc as v b) (hr : r ∈ asgN as b.toNat) : (r.length : Int) = b ∧ (∀ x ∈ r, 0 ≤ x ∧ x < v) ∧ countsI r v = as := by
  obtain ⟨h1, h2, h3⟩ := (mem_asgN h.nn _ r).mp hr
  have hl := h.len
  have o := ord_upI (m := v) (by omega)
  have rl := runL_length h o
  have b0 : 0 ≤ b := by rw [← h.sum]; exact sum_nn h.nn
  have cle : ∀ x, r.count x ≤ (runL as (upI 0 v.toNat)).count x := fun x => by
    have c1 := runL_count h.nn o.nd x
    by_cases m : x ∈ upI 0 v.toNat
    · rw [if_pos m] at c1
      have := h3 x
      omega
    · rw [List.count_eq_zero_of_not_mem fun z => m (o.mem (h2 x z).1 (by have := (h2 x z).2; omega))]; omega
  have sp : r.Perm (runL as (upI 0 v.toNat)) := perm_of_count cle (by omega)
  refine ⟨by omega, fun x hx => ⟨(h2 x hx).1, by have := (h2 x hx).2; omega⟩, ?_⟩
  rw [← runL_counts h o]
  unfold countsI
  apply List.map_congr_left
  intro i _
  rw [sp.count_eq]
theorem asgN_of (h : Alc as v b) (h1 : (r.length : Int) = b) (h2 : ∀ x ∈ r, 0 ≤ x ∧ x < v) (h3 : countsI r v = as) : r ∈ asgN as b.toNat := by
  have hl := h.len
  refine (mem_asgN h.nn _ _).mpr ⟨by omega, fun x hx => ⟨(h2 x hx).1, by have := (h2 x hx).2; omega⟩, fun x => ?_⟩
  by_cases m : x ∈ r
  · obtain ⟨x0, x1⟩ := h2 x m
    obtain ⟨j, rfl⟩ := Int.eq_ofNat_of_zero_le x0
    have := countsI_get (ns := r) x1
    rw [h3] at this
    unfold gI
    rw [Int.toNat_natCast, this]
    exact Int.le_refl _
  · rw [List.count_eq_zero_of_not_mem m]
    exact gI_nn h.nn x
theorem lexLt_no : ∀ {as bs : List Int}, lexLt as bs → lexLe bs as → False
  | [], _, h, _ => h
  | _ :: _, [], h, _ => h
  | a :: as, b :: bs, h, g => by
    unfold lexLt at h
    unfold lexLe at g
    rcases h with h | ⟨e, h⟩
    · rcases g with g | ⟨_, _⟩ <;> omega
    · rcases g with g | ⟨_, g⟩
      · omega
      · exact lexLt_no h g
/-- the near assignments: the first change, and what is not less -/
theorem near_first (hf : Asg f v) (ha : Alc as v f.length) (hv : 0 ≤ v) : ∃ rest, (asgN as f.length).filter (fun r => decide (zs ne1 f r = trI (countsI f v) as)) = firstI (s0I v f as) f :: rest ∧ ∀ s ∈ firstI (s0I v f as) f :: rest, HT.lexLt s (firstI (s0I v f as) f) = false := by
  have st := st0 hf ha hv
  have mem : ∀ r, r ∈ (asgN as f.length).filter (fun r => decide (zs ne1 f r = trI (countsI f v) as)) → Lst v f as r := fun r hr => by
    obtain ⟨h1, h2⟩ := List.mem_filter.mp hr
    have := asgN_cnt (b := f.length) ha (by simpa using h1)
    exact ⟨⟨by have := hf.len; omega, this.2.1⟩, by omega, this.2.2, of_decide_eq_true h2⟩
  have kl := (fit_lst hf ha hv).mp (first_fit st)
  have hF : firstI (s0I v f as) f ∈ (asgN as f.length).filter (fun r => decide (zs ne1 f r = trI (countsI f v) as)) := by
    refine List.mem_filter.mpr ⟨?_, decide_eq_true kl.chn⟩
    have := asgN_of (b := f.length) ha (by rw [kl.len]) kl.asg.rng kl.cnt
    simpa using this
  have pw : ((asgN as f.length).filter (fun r => decide (zs ne1 f r = trI (countsI f v) as))).Pairwise lexLt := (asgN_pw as f.length).sublist List.filter_sublist
  have least : ∀ s ∈ (asgN as f.length).filter (fun r => decide (zs ne1 f r = trI (countsI f v) as)), lexLe (firstI (s0I v f as) f) s ∧ s.length = (firstI (s0I v f as) f).length := fun s hs => by
    have := mem s hs
    exact ⟨first_le st ((fit_lst hf ha hv).mpr this), by rw [this.len, kl.len]⟩
  generalize (asgN as f.length).filter (fun r => decide (zs ne1 f r = trI (countsI f v) as)) = L at hF pw least
  have no : ∀ s ∈ L, HT.lexLt s (firstI (s0I v f as) f) = false := fun s hs => by
    obtain ⟨h1, h2⟩ := least s hs
    cases q : HT.lexLt s (firstI (s0I v f as) f) with
    | false => rfl
    | true => exact (lexLt_no ((lexLt_HT h2).mp q) h1).elim
  cases L with
  | nil => cases hF
  | cons r0 rest =>
    rcases List.mem_cons.mp hF with e | m
    · rw [e] at no ⊢
      exact ⟨rest, rfl, no⟩
    · exact (lexLt_no ((List.pairwise_cons.mp pw).1 _ m) (least r0 (by simp)).1).elim
/-- the rows of the first history -/
def rowH (v : Int) (A : List (List Int)) : Nat → List Int
  | 0 => runL (A.getD 0 []) (upI 0 v.toNat)
  | n + 1 => firstI (s0I v (rowH v A n) (A.getD (n + 1) [])) (rowH v A n)
theorem row_ok (h : Ser A v b) : ∀ {n : Nat}, n < A.length → Asg (rowH v A n) v ∧ ((rowH v A n).length : Int) = b ∧ countsI (rowH v A n) v = A.getD n []
  | 0, h0 => by
    have v1 := h.v1
    have o := ord_upI (m := v) (by omega)
    have a := h.at h0
    exact ⟨runL_asg a o h.b20, runL_length a o, runL_counts a o⟩
  | n + 1, hn => by
    have v1 := h.v1
    obtain ⟨h1, h2, h3⟩ := row_ok h (n := n) (by omega)
    have a := h.at hn
    have a' : Alc (A.getD (n + 1) []) v (rowH v A n).length := by rw [h2]; exact a
    have kl := (fit_lst h1 a' (by omega)).mp (first_fit (st0 h1 a' (by omega)))
    exact ⟨kl.asg, by show ((firstI _ _).length : Int) = b; rw [kl.len]; exact h2, kl.cnt⟩
theorem row_chn (h : Ser A v b) (hn : n + 1 < A.length) : zs ne1 (rowH v A n) (rowH v A (n + 1)) = trI (A.getD n []) (A.getD (n + 1) []) := by
  have v1 := h.v1
  obtain ⟨h1, h2, h3⟩ := row_ok h (n := n) (by omega)
  have a' : Alc (A.getD (n + 1) []) v (rowH v A n).length := by rw [h2]; exact h.at hn
  have kl := (fit_lst h1 a' (by omega)).mp (first_fit (st0 h1 a' (by omega)))
  rw [← h3]
  exact kl.chn
theorem row_near (h : Ser A v b) (hn : n + 1 < A.length) : ∃ rest, (asgN (A.getD (n + 1) []) b.toNat).filter (fun r => decide (zs ne1 (rowH v A n) r = trI (A.getD n []) (A.getD (n + 1) []))) = rowH v A (n + 1) :: rest ∧ ∀ s ∈ rowH v A (n + 1) :: rest, HT.lexLt s (rowH v A (n + 1)) = false := by
  have v1 := h.v1
  obtain ⟨h1, h2, h3⟩ := row_ok h (n := n) (by omega)
  have a' : Alc (A.getD (n + 1) []) v (rowH v A n).length := by rw [h2]; exact h.at hn
  have := near_first h1 a' (by omega)
  rw [h3] at this
  have e : b.toNat = (rowH v A n).length := by omega
  rw [e]
  exact this
def hisL (v : Int) (A : List (List Int)) : List (List Int) := (List.range A.length).map (rowH v A)
theorem his_at (hn : n < A.length) : (hisL v A).getD n [] = rowH v A n := by simp [hisL, List.getD_eq_getElem?_getD, hn]
theorem his_len : (hisL v A).length = A.length := by simp [hisL]
/-- rows of the allocations' sizes -/
structure Tab (T A : List (List Int)) (v b : Int) : Prop where
  ser : Ser A v b
  len : T.length = A.length
  asg : ∀ t ∈ T, Asg t v ∧ (t.length : Int) = b
theorem Tab.at (h : Tab T A v b) (hn : n < A.length) : Asg (T.getD n []) v ∧ ((T.getD n []).length : Int) = b := by
  have := h.len
  have e : T.getD n [] = T[n] := by simp [List.getD_eq_getElem?_getD, show n < T.length by omega]
  rw [e]
  exact h.asg _ (List.getElem_mem (by omega))
def tabOf (T A : List (List Int)) (v : Int) : Bool := decide (T.map (fun t => countsI t v) = A)
/-- the first step that moves too many -/
def wrgL (A T : List (List Int)) : Option Nat := (List.range (A.length - 1)).find? fun s => !decide (zs ne1 (T.getD s []) (T.getD (s + 1) []) = trI (A.getD s []) (A.getD (s + 1) []))
theorem his_tab (h : Ser A v b) : Tab (hisL v A) A v b := ⟨h, his_len, fun t ht => by
  obtain ⟨n, hn, rfl⟩ := List.mem_map.mp ht
  have := row_ok h (List.mem_range.mp hn)
  exact ⟨this.1, this.2.1⟩⟩
theorem his_of (h : Ser A v b) : tabOf (hisL v A) A v = true := by
  refine decide_eq_true ?_
  apply List.ext_getElem
  · simp [hisL]
  · intro i h1 h2
    have := (row_ok h h2).2.2
    rw [List.getD_eq_getElem?_getD, List.getElem?_eq_getElem h2] at this
    simpa [hisL] using this
theorem his_right (h : Ser A v b) : wrgL A (hisL v A) = none := by
  unfold wrgL
  rw [List.find?_eq_none]
  intro s hs
  have hs' := List.mem_range.mp hs
  rw [his_at (by omega), his_at (by omega), row_chn h (by omega)]
  simp
/-- how often each bucket changes -/
def chgL (T : List (List Int)) (m : Nat) : List Int := (List.range m).map fun i => (((prs T).countP fun p => !decide (p.1.getD i 0 = p.2.getD i 0) : Nat) : Int)
theorem countP_sum {α : Type} (p : α → Bool) : ∀ l : List α, ((l.countP p : Nat) : Int) = (l.map fun a => if p a = true then (1 : Int) else 0).sum
  | [] => by simp
  | a :: l => by
    rw [List.countP_cons, List.map_cons, List.sum_cons, Int.natCast_add, countP_sum p l]
    split <;> simp <;> omega
theorem sum_swap {α β : Type} (F : α → β → Int) : ∀ (l : List α) (m : List β), (l.map fun a => (m.map fun c => F a c).sum).sum = (m.map fun c => (l.map fun a => F a c).sum).sum
  | [], m => by
    have : ∀ m : List β, (m.map fun _ => (0 : Int)).sum = 0 := fun m => by induction m with | nil => rfl | cons _ _ ih => simp [ih]
    simp [this]
  | a :: l, m => by
    rw [List.map_cons, List.sum_cons, sum_swap F l m, sum_plus]
    simp
theorem chg_sum {m : Nat} (h : ∀ t ∈ T, t.length = m) : (chgL T m).sum = ((prs T).map fun p => zs ne1 p.1 p.2).sum := by
  unfold chgL
  simp only [countP_sum]
  rw [sum_swap]
  congr 1
  apply List.map_congr_left
  intro p hp
  unfold zs
  rw [h _ (prs_mem hp).1]
  congr 1
  apply List.map_congr_left
  intro i _
  unfold ne1
  by_cases q : p.1.getD i 0 = p.2.getD i 0
  · rw [if_pos q, if_neg (by rw [decide_eq_true q]; decide)]
  · rw [if_neg q, if_pos (by rw [decide_eq_false q]; rfl)]
theorem his_total (h : Ser A v b) : (chgL (hisL v A) b.toNat).sum = totA A := by
  have t := his_tab h
  rw [chg_sum fun r hr => by have := (t.asg r hr).2; omega]
  unfold totA
  rw [prs_rng, prs_rng, List.map_map, List.map_map, his_len]
  congr 1
  apply List.map_congr_left
  intro i hi
  have hi' := List.mem_range.mp hi
  show zs ne1 ((hisL v A).getD i []) ((hisL v A).getD (i + 1) []) = _
  rw [his_at (by omega), his_at (by omega), row_chn h (by omega)]
  rfl
def tTupRn (te : L2.St → Hp → (Int → Int → Hp → Prop) → Prop) : TE := fun σ H Q => te σ H fun a z H1 => RgOk a z ∧ NewT H1 (rgV a z) Q
theorem pe_tupRn {X : Cx} {e : Expr} {te : L2.St → Hp → (Int → Int → Hp → Prop) → Prop} {p pos : Pos} (hc : X.calm = true) (hg : Gl X "tuple") (hm : X.mg "tuple" = none) (he : PRg X e te) (na : starEach [e] X.env = (false, eval e X.env) :: starEach [] X.env := by rfl) :
    PE X (.Call (.Name "tuple" p) [e] [] pos) (tTupRn te) := by
  refine ⟨fun pins s σ H Q I h => Call_ (ld_blt I hg hm boot_tuple (PyProof.Rows.callWith_type1 (args_cons (thn (he pins s σ H _ I h) fun x s1 ⟨r, a, z, t, u, v, H1, ex, hr, I1, ok, q⟩ => args_nil ?_) na) na))⟩
  obtain ⟨z1, z2, z3, z4, z5⟩ := ok
  rw [ex]
  refine call_tuple_range (n := (z - a).toNat) (I1.ok.hd hc) hr (small_one z1 z2 z3 z4) (rangeSize_nat a z) z5 fun h' tk acc hk hi => ?_
  have I2 : Inv X pins σ H1 { s1 with heap := h', toks := tk } := I1.kept hk
  have w := newT I2 (vals_rg hi) (by rw [rgV_length, sizeLine_eq]; omega) q
  rwa [Array.toArray_toList] at w
section
variable {c : Ct} {H H' H0 H1 H2 H3 : Hp} {O : List Addr} {Γ Γ' Γ1 : List (Option Rs)} {te : TE} {k : Kd} {i : Int}
/-- tuple(range(n)) -/
theorem e_tupRg (h : Ev c te Γ k (.int i)) (h0 : 0 ≤ i) (h1 : i ≤ 1000000) : Ev c (tTupRn (tRg1 te)) Γ .v (.tuple ((upI 0 i.toNat).map .int)) := fun H0 O H σ e Q q =>
  h H0 O H σ e _ fun v H1 r s => ⟨i, (Res.bo e s).int', .of_le (by decide) (by omega) (by decide) h0, newTk (c := c) fun p' H4 hp sm tp => by
    have r4 : Rr c H H4 := r.tr (Rr.same sm)
    rw [rgV_upI] at tp
    exact q _ H4 r4 (.tup (tpN_mns e r4 tp) (BoAll.ofInts _))⟩
end
/-! of lists -/
theorem zip_all {v : Int} : ∀ (T A : List (List Int)), T.length = A.length → ((T.zip A).map fun p => decide (countsI p.1 v = p.2)).all id = tabOf T A v
  | [], [], _ => rfl
  | t :: T, a :: A, h => by
    have ih := zip_all (v := v) T A (by simpa using h)
    rw [List.zip_cons_cons, List.map_cons, List.all_cons, ih]
    unfold tabOf
    simp only [List.map_cons, List.cons.injEq, Bool.decide_and, id]
theorem find_here {p : Nat → Bool} {n m : Nat} (hn : n < m) (h : (List.range n).find? p = none) (hp : p n = true) : (List.range m).find? p = some n := by
  obtain ⟨j, rfl⟩ : ∃ j, m = n + 1 + j := ⟨m - (n + 1), by omega⟩
  have e : List.range (n + 1 + j) = List.range n ++ (n :: (List.range j).map fun i => n + 1 + i) := by
    rw [List.range_add, List.range_succ, List.append_assoc]
    rfl
  rw [e, List.find?_append, h, List.find?_cons_of_pos hp]
  rfl
theorem steps_enum (T : List (List Int)) {m : Nat} (hm : T.length = m + 1) : enumI (zipTs (T.map tupD) ((T.map tupD).drop 1)) = (List.range m).map fun i => Im.t [.d (.int (i : Nat)), .d (.tuple [tupD (T.getD i []), tupD (T.getD (i + 1) [])])] := by
  have e : zipTs (T.map tupD) ((T.map tupD).drop 1) = (List.range m).map fun i => PyData.tuple [tupD (T.getD i []), tupD (T.getD (i + 1) [])] := by
    rw [zipTs_rows, prs_rng, hm, List.map_map]
    rfl
  rw [e]
  apply List.ext_getElem
  · simp [enumI]
  · intro i h1 h2
    simp [enumI]
theorem Asg.wide {f : List Int} (h : Asg f v) (h5 : v ≤ 5) : Asg f 5 := ⟨h.len, fun x hx => ⟨(h.rng x hx).1, by have := (h.rng x hx).2; omega⟩⟩
def sp_ascendingR (K : PySem.W.Frag) : Sp := spD K fun ds k d => ∃ (ns : List Int) (v b : Int), ds = [.tuple (ns.map .int)] ∧ Alc ns v b ∧ 1 ≤ v ∧ v ≤ 1000 ∧ b ≤ 1000 ∧ k = .v ∧ d = .tuple ((runL ns (upI 0 v.toNat)).map .int)
def sp__law_sortedR (K : PySem.W.Frag) : Sp := spD K fun ds k d => ∃ (ns : List Int) (v b : Int), ds = [.tuple (ns.map .int)] ∧ Alc ns v b ∧ 1 ≤ v ∧ v ≤ 1000 ∧ b ≤ 1000 ∧ k = .v ∧ d = .tuple ((runL ns (upI 0 v.toNat)).map .int)
def sp_first_history (K : PySem.W.Frag) : Sp := spD K fun ds k d => ∃ A v b, ds = [.tuple (A.map tupD)] ∧ Ser A v b ∧ k = .v ∧ d = .tuple ((hisL v A).map tupD)
def sp_is_assignment_of (K : PySem.W.Frag) : Sp := spD K fun ds k d => ∃ (r as : List Int) (v b : Int), ds = [.tuple (r.map .int), .tuple (as.map .int)] ∧ Asg r v ∧ (r.length : Int) = b ∧ Alc as v b ∧ 1 ≤ v ∧ v ≤ 5 ∧ k = .v ∧ d = .bool (decide (countsI r v = as))
def sp_are_assignments_of (K : PySem.W.Frag) : Sp := spD K fun ds k d => ∃ T A v b, ds = [.tuple (T.map tupD), .tuple (A.map tupD)] ∧ Tab T A v b ∧ k = .v ∧ d = .bool (tabOf T A v)
def sp_first_wrong (K : PySem.W.Frag) : Sp := spD K fun ds k d => ∃ T A v b, ds = [.tuple (A.map tupD), .tuple (T.map tupD)] ∧ Tab T A v b ∧ k = .v ∧ d = natD (wrgL A T)
def sp_wrong_step (K : PySem.W.Frag) : Sp := spD K fun ds k d => ∃ T A v b, ds = [.tuple (A.map tupD), .tuple (T.map tupD)] ∧ Tab T A v b ∧ tabOf T A v = true ∧ k = .v ∧ d = natD (wrgL A T)
def sp_changes_of (K : PySem.W.Frag) : Sp := spD K fun ds k d => ∃ T A v b, ds = [.tuple (A.map tupD), .tuple (T.map tupD)] ∧ Tab T A v b ∧ tabOf T A v = true ∧ wrgL A T = none ∧ k = .v ∧ d = .tuple ((chgL T b.toNat).map .int)
def sp__law_changes (K : PySem.W.Frag) : Sp := spD K fun ds k d => ∃ (T : List (List Int)) (m : Nat), ds = [.tuple (T.map tupD)] ∧ 1 ≤ T.length ∧ T.length ≤ 1000 ∧ m ≤ 1000 ∧ (∀ t ∈ T, t.length = m) ∧ k = .v ∧ d = .tuple ((chgL T m).map .int)
end Lm

/-! itertools.combinations(range(n), k), walked -/
namespace CmbK
open PySem PySem.Spec PyProof.Rows L2
theorem mro_c : mroOf (.type "itertools.combinations") = pure [.type "itertools.combinations", .type "object"] := by rw [mroOf_type]; kernel_rfl
theorem new_c : typeLookup (.type "itertools.combinations") "__new__" = pure (some (.builtin "itertools.combinations.__new__")) := by rw [typeLookup_type, builtinLookup_eq_fast]; kernel_rfl
theorem init_c : Slot "itertools.combinations" "__init__" "object.__init__" :=
  .of (owner := "object") (n := "__init__") (by rw [typeLookup_type, builtinLookup_eq_fast]; kernel_rfl) (by decide +kernel) (by decide +kernel) (by decide +kernel) (by first | exact .inl (by decide +kernel) | exact .inr (by decide +kernel)) (by rw [isSubtype_type]; kernel_rfl)
theorem sub_c : isSubtype (.type "itertools.combinations") (.type "itertools.combinations") = pure true := by rw [isSubtype_type]; kernel_rfl
theorem called_c : TypeCalled "itertools.combinations" "itertools.combinations.__new__" "object.__init__" :=
  ⟨by decide +kernel, by decide +kernel, ⟨_, _, mro_c⟩, madeBy_type mro_c new_c (by decide +kernel), by decide +kernel, sub_c, init_c⟩
theorem tcall_c (a b : Value) : checkTypeCall "itertools.combinations" ⟨[a, b], []⟩ = pure () := by kernel_rfl
theorem ncall_c (a b : Value) : checkBuiltinCall "itertools.combinations.__new__" ⟨[.type "itertools.combinations", a, b], []⟩ = pure () := by kernel_rfl
theorem entryN_c : entryFor table "itertools.combinations.__new__" = some Builtin.«itertools.combinations.__new__» := entryFor_of_tree (by kernel_rfl)
theorem iter_c : Slot "itertools.combinations" "__iter__" "itertools.combinations.__iter__" :=
  .of (owner := "itertools.combinations") (n := "__iter__") (by rw [typeLookup_type, builtinLookup_eq_fast]; kernel_rfl) (by decide +kernel) (by decide +kernel) (by decide +kernel) (by first | exact .inl (by decide +kernel) | exact .inr (by decide +kernel)) sub_c
theorem next_c : Slot "itertools.combinations" "__next__" "itertools.combinations.__next__" :=
  .of (owner := "itertools.combinations") (n := "__next__") (by rw [typeLookup_type, builtinLookup_eq_fast]; kernel_rfl) (by decide +kernel) (by decide +kernel) (by decide +kernel) (by first | exact .inl (by decide +kernel) | exact .inr (by decide +kernel)) sub_c
theorem entryI_c : entryFor table "itertools.combinations.__iter__" = some Builtin.«dict_keyiterator.__iter__» :=
  entryFor_alias (id' := "dict_keyiterator.__iter__") (by kernel_rfl) (by first | rfl | decide +kernel | (unfold String.splitOn; simp +decide [String.splitOnAux])) (by decide +kernel) (by kernel_rfl)
theorem entryX_c : entryFor table "itertools.combinations.__next__" = some Builtin.«itertools.combinations.__next__» := entryFor_of_tree (by kernel_rfl)
theorem owner_c : Manifest.owners.lookup (String.ofList "itertools.combinations".toList.reverse.reverse) = some Manifest.sig_itertools_combinations := by kernel_rfl
theorem argsI_c (a : Value) : argsOk "itertools.combinations.__iter__" ⟨[a], []⟩ := by
  unfold argsOk; rw [signature?_of (id := "itertools.combinations.__iter__") (n := "__iter__".toList.reverse) (o := "itertools.combinations".toList.reverse) (by kernel_rfl) owner_c]; kernel_rfl
theorem argsX_c (a : Value) : argsOk "itertools.combinations.__next__" ⟨[a], []⟩ := by
  unfold argsOk; rw [signature?_of (id := "itertools.combinations.__next__") (n := "__next__".toList.reverse) (o := "itertools.combinations".toList.reverse) (by kernel_rfl) owner_c]; kernel_rfl
theorem noDict_c : typeHasDict (.type "itertools.combinations") = false := by decide +kernel
/-- the iterator: its items' tuple, 0 before the first item, 1 behind it, 2 at the end; what it handed out; the places -/
def cells (T : Addr) (st : Int) (bf : Value) (ks : List Nat) : Array Value := ([.ref T, .int st 0, bf] ++ ks.map fun (i : Nat) => Value.int i 0).toArray
abbrev IsCmb (h : Heap) (it T : Addr) (st : Int) (bf : Value) (ks : List Nat) : Prop := h.get? it = some { cls := .type "itertools.combinations", dict := none, data := .fields (cells T st bf ks), slots := #[] }
/-- the places that follow -/
def nxt (n : Nat) (ks : List Nat) : Option (List Nat) :=
  match (List.range ks.length).reverse.find? fun i => ks.getD i 0 != i + n - ks.length with
  | none => none
  | some i => some (ks.take i ++ (List.range (ks.length - i)).map (ks.getD i 0 + 1 + ·))
end CmbK

/-! itertools.combinations(range(n), k): made, its turns -/
namespace CmbK
open PySem PySem.Spec PyProof.Rows L2
theorem meets_new (r : Addr) (n : Nat) (k : Nat) (t u v tk0 : Tok) (hn : n ≤ 1000) (hk : k ≤ 1000) :
    Meets (Builtin.«itertools.combinations.__new__» ⟨[.type "itertools.combinations", .ref r, .int k tk0], []⟩)
      (fun A R s => A.handled = none ∧ IsRange s.heap r 0 n 1 t u v ∧ ∀ (h' : Heap) (tk : Nat) (acc : Array Value), (∀ b o, s.heap.get? b = some o → h'.get? b = some o) → ItemsOf (fun i v => ∃ t, v = .int (0 + i * 1) t) acc n →
        R (.ok (.ret (.ref (h'.objs.size + 1)))) { s with heap := (h'.push { cls := .type "tuple", data := .seq acc }).push { cls := .type "itertools.combinations", data := .fields (cells h'.objs.size (if n < k then 2 else 0) .none (List.range k)) }, toks := tk }) :=
  .of_wp fun prog w A R s h => by
    obtain ⟨hp, g, dd, tk, os⟩ := s
    obtain ⟨hh, hr, h⟩ := h
    have hsub := sub_c
    have hd := noDict_c
    have small : Builtin.Range.small 0 n 1 = true := small_one (by decide) (by decide) (by omega) (by omega)
    have size : Builtin.Range.rangeSize 0 n 1 = n := by rw [rangeSize_nat]; omega
    have col : ∀ {A' : Around} {E : Value → Shared → Prop} {Q : List Value → Shared → Prop}, A'.handled = none → (∀ (h' : Heap) (tk : Nat) (acc : Array Value), (∀ b o, hp.get? b = some o → h'.get? b = some o) → ItemsOf (fun i v => ∃ t, v = .int (0 + i * 1) t) acc n → Q acc.toList ⟨h', g, dd, tk, os⟩) → wpAny (model prog w) A' (collect (.ref r)) Q E ⟨hp, g, dd, tk, os⟩ :=
      fun hh' q => collect_range hh' hr small size (by omega) q
    have name : ("itertools." ++ "combinations" : String) = "itertools.combinations" := by decide
    wp_walk using @col
    rw [name]
    refine wpAny_of_eq hsub ?_
    simp only [Bool.not_true, Bool.false_eq_true, if_false]
    wp_walk using @col
    rw [if_neg (by simp only [Bool.or_eq_true, decide_eq_true_eq]; omega)]
    refine wpAny_pure ?_
    refine wpAny_bind (col hh fun h' tk' acc hk hi => ?_)
    have big : Builtin.Itertools.itTooMany (k : Int) = false := decide_eq_false (by omega)
    have sz : acc.toList.length = n := by rw [Array.length_toList]; exact hi.1
    rw [if_neg (by omega), big]
    simp only [Bool.false_eq_true, if_false]
    refine wpAny_bind (wpAny_newTuple (wpAny_pure ?_))
    refine wpAny_bind ?_
    unfold Builtin.Itertools.itNewRecord
    simp only [hd]
    simp only [Bool.not_false, if_true]
    refine wpAny_newObj_type ?_ (show Array.size _ ≤ sizeLine + 2 by rw [List.size_toArray, List.length_append, List.length_map, List.length_range, Int.toNat_natCast, sizeLine_eq]; simp only [List.length_cons, List.length_nil]; omega)
    refine wpAny_pure ⟨_, rfl, ?_⟩
    have w := h h' tk' acc hk hi
    have e1 : (h'.push { cls := .type "tuple", data := .seq acc }).objs.size = h'.objs.size + 1 := Heap.size_push ..
    rw [Array.toArray_toList, e1, Int.toNat_natCast, sz]
    exact w
end CmbK

/-! itertools.combinations: its turns -/
namespace CmbK
open PySem PySem.Spec PyProof.Rows L2
theorem cells_st (T : Addr) (st st' : Int) (bf : Value) (ks : List Nat) : (cells T st bf ks).setIfInBounds 1 (.int st' 0) = cells T st' bf ks := by
  unfold cells
  simp
theorem cells_bf (T : Addr) (st : Int) (bf bf' : Value) (ks : List Nat) : (cells T st bf ks).setIfInBounds 2 bf' = cells T st bf' ks := by
  unfold cells
  simp
theorem cells_set (T : Addr) (st : Int) (bf : Value) (ks ls : List Nat) : (cells T st bf ks).extract 0 3 ++ (ls.map fun (n : Nat) => rawInt n).toArray = cells T st bf ls := by
  unfold cells
  simp [rawInt]
/-- the items at these places -/
def picks (xs : Array Value) (ks : List Nat) : List Value := ks.map fun i => xs.getD i .none
section
variable {prog : Program} {w : World} {A : Around} {E : Value → Shared → Prop} {s : Shared} {it T : Addr} {bf : Value} {ks : List Nat} {xs : Array Value}
theorem nums_from {st : Int} {Q : List Nat → Shared → Prop} (hz : IsCmb s.heap it T st bf ks) (h : Q ks s) : wpAny (model prog w) A (Builtin.Itertools.itNumbersFrom (.ref it) 3) Q E s := by
  have key : ∀ l, l = ks → Q l s := fun l e => e ▸ h
  unfold Builtin.Itertools.itNumbersFrom
  refine wpAny_bind (wpAny_load hz (wpAny_pure (key _ ?_)))
  show List.map _ (ks.map fun (i : Nat) => Value.int i 0) = ks
  rw [List.map_map]
  conv => rhs; rw [← List.map_id ks]
  apply List.map_congr_left
  intro i _
  simp
/-- the items at the places, handed out -/
theorem hand_out {st : Int} {ls : List Nat} {Q : Value → Shared → Prop} (hz : IsCmb s.heap it T st bf ks) (hT : s.heap.IsTuple T xs) (hl : ls.length ≤ 1000)
    (hQ : ∀ h', IsCmb h' it T st (.ref s.heap.objs.size) ks → h'.get? s.heap.objs.size = some { cls := .type "tuple", data := .seq (picks xs ls).toArray } → h'.objs.size = s.heap.objs.size + 1 →
      (∀ c o, c ≠ it → s.heap.get? c = some o → h'.get? c = some o) → Q (.ref s.heap.objs.size) { s with heap := h' }) :
    wpAny (model prog w) A (newTuple (ls.map fun i => xs.getD i .none)) (fun result s1 => wpAny (model prog w) A (field (.ref it) 2 >>= fun before => setField (.ref it) 2 result >>= fun _ => letGo [before] [result] >>= fun _ => ret result) (fun fin s' => ∃ v, fin = .done (.ret v) ∧ Q v s') E s1) E s := by
  refine wpAny_newTuple ?_ (by rw [List.length_map, sizeLine_eq]; omega)
  have lt : it < s.heap.objs.size := Heap.lt_size hz
  have hz1 : IsCmb (s.heap.push { cls := .type "tuple", data := .seq (picks xs ls).toArray }) it T st bf ks := Heap.get?_push_of_some _ hz
  refine wpAny_bind (wpAny_field hz1 rfl (x := bf) rfl ?_)
  refine wpAny_bind (wpAny_setField_rec hz1 (by simp [cells]) fun h2 hz2 hs2 => ?_)
  rw [cells_bf] at hz2
  refine wpAny_bind (wpAny_letGo (wpAny_pure ⟨_, rfl, ?_⟩))
  replace hs2 : Heap.SameBut it (s.heap.push { cls := .type "tuple", data := .seq (picks xs ls).toArray }) h2 := hs2
  refine hQ h2 hz2 (hs2.extBut _ _ (Nat.ne_of_gt lt) (Heap.get?_push_size _ rfl)) (by rw [hs2.1, Heap.size_push]) fun c o ce q => hs2.extBut _ _ ce (Heap.get?_push_of_some _ q)
theorem notT {st : Int} {h : Heap} (hz : IsCmb h it T st bf ks) (hT : h.IsTuple T xs) : T ≠ it := fun e => by
  obtain ⟨o, ho, hc, _⟩ := id hT
  rw [e, hz] at ho
  cases ho
  simp at hc
/-- the first item -/
theorem turn_first {Q : Value → Shared → Prop} (hl : ks.length ≤ 1000) (hz : IsCmb s.heap it T 0 bf ks) (hT : s.heap.IsTuple T xs)
    (hQ : ∀ h', IsCmb h' it T 1 (.ref s.heap.objs.size) ks → h'.get? s.heap.objs.size = some { cls := .type "tuple", data := .seq (picks xs ks).toArray } → h'.objs.size = s.heap.objs.size + 1 →
      (∀ c o, c ≠ it → s.heap.get? c = some o → h'.get? c = some o) → Q (.ref s.heap.objs.size) { s with heap := h' }) :
    wpAny (model prog w) A (Builtin.«itertools.combinations.__next__» ⟨[.ref it], []⟩) (fun fin s' => ∃ v, fin = .done (.ret v) ∧ Q v s') E s := by
  show wpAny _ _ (field (.ref it) 0 >>= _) _ _ s
  refine wpAny_bind (wpAny_field hz rfl (x := .ref T) rfl ?_)
  show wpAny _ _ (Builtin.Itertools.itNumbersFrom (.ref it) 3 >>= _) _ _ s
  refine wpAny_bind (nums_from hz ?_)
  show wpAny _ _ (Builtin.Itertools.itIntField (.ref it) 1 >>= _) _ _ s
  refine wpAny_bind (wpAny_bind (wpAny_field hz rfl (x := .int 0 0) rfl (wpAny_pure ?_)))
  show wpAny _ _ (setField (.ref it) 1 (rawInt 1) >>= _) _ _ s
  refine wpAny_bind (wpAny_setField_rec hz (by simp [cells]) fun h1 hz1 hs1 => ?_)
  rw [show rawInt 1 = Value.int 1 0 from rfl, cells_st] at hz1
  replace hs1 : Heap.SameBut it s.heap h1 := hs1
  have hT1 : h1.IsTuple T xs := let ⟨o, ho, r⟩ := hT; ⟨o, hs1.extBut _ _ (notT hz hT) ho, r⟩
  obtain ⟨o, ho, _, n, hd⟩ := id hT1
  show wpAny _ _ ((Builtin.Itertools.itPoolItems (.ref T) >>= fun items => newTuple (ks.map fun i => items.getD i .none)) >>= _) _ _ _
  refine wpAny_bind (wpAny_bind (wpAny_bind (wpAny_seqItems ho hd (wpAny_pure ?_))))
  exact hand_out (s := { s with heap := h1 }) hz1 hT1 hl fun h2 z2 t2 n2 k2 => by
    have n1 : h1.objs.size = s.heap.objs.size := hs1.1
    replace z2 : IsCmb h2 it T 1 (.ref h1.objs.size) ks := z2
    replace t2 : h2.get? h1.objs.size = some { cls := .type "tuple", data := .seq (picks xs ks).toArray } := t2
    replace n2 : h2.objs.size = h1.objs.size + 1 := n2
    show Q (.ref h1.objs.size) { s with heap := h2 }
    rw [n1] at z2 t2 n2 ⊢
    exact hQ h2 z2 t2 n2 fun c o ce q => k2 c o ce (hs1.extBut _ _ ce q)
/-- an item behind the first one -/
theorem turn_next {Q : Value → Shared → Prop} {ls : List Nat} (hl : ls.length ≤ 1000) (hz : IsCmb s.heap it T 1 bf ks) (hT : s.heap.IsTuple T xs) (hn : nxt xs.size ks = some ls)
    (hQ : ∀ h', IsCmb h' it T 1 (.ref s.heap.objs.size) ls → h'.get? s.heap.objs.size = some { cls := .type "tuple", data := .seq (picks xs ls).toArray } → h'.objs.size = s.heap.objs.size + 1 →
      (∀ c o, c ≠ it → s.heap.get? c = some o → h'.get? c = some o) → Q (.ref s.heap.objs.size) { s with heap := h' }) :
    wpAny (model prog w) A (Builtin.«itertools.combinations.__next__» ⟨[.ref it], []⟩) (fun fin s' => ∃ v, fin = .done (.ret v) ∧ Q v s') E s := by
  show wpAny _ _ (field (.ref it) 0 >>= _) _ _ s
  refine wpAny_bind (wpAny_field hz rfl (x := .ref T) rfl ?_)
  show wpAny _ _ (Builtin.Itertools.itNumbersFrom (.ref it) 3 >>= _) _ _ s
  refine wpAny_bind (nums_from hz ?_)
  show wpAny _ _ (Builtin.Itertools.itIntField (.ref it) 1 >>= _) _ _ s
  refine wpAny_bind (wpAny_bind (wpAny_field hz rfl (x := .int 1 0) rfl (wpAny_pure ?_)))
  obtain ⟨o, ho, _, n, hd⟩ := id hT
  show wpAny _ _ (Builtin.Itertools.itPoolItems (.ref T) >>= _) _ _ s
  refine wpAny_bind (wpAny_bind (wpAny_seqItems ho hd (wpAny_pure ?_)))
  show wpAny _ _ (match nxt xs.size ks with | some next => _ | none => _) _ _ s
  rw [hn]
  show wpAny _ _ (Builtin.Itertools.itSetNumbersFrom (.ref it) 3 ls >>= _) _ _ s
  refine wpAny_bind (wpAny_updateFields hz rfl ?_ (by rw [cells_set]; simp [cells, sizeLine_eq]; omega))
  have hz1 := Heap.get?_update_self (Obj.mapFields fun fs => fs.extract 0 3 ++ (ls.map fun (n : Nat) => rawInt n).toArray) hz rfl
  have e1 : (Obj.mapFields (fun fs => fs.extract 0 3 ++ (ls.map fun (n : Nat) => rawInt n).toArray) { cls := .type "itertools.combinations", data := .fields (cells T 1 bf ks) }) = { cls := .type "itertools.combinations", dict := none, data := .fields (cells T 1 bf ls), slots := #[] } := by
    rw [← cells_set T 1 bf ks ls]
    rfl
  rw [e1] at hz1
  have sb : Heap.SameBut it s.heap (s.heap.update it (Obj.mapFields fun fs => fs.extract 0 3 ++ (ls.map fun (n : Nat) => rawInt n).toArray)) := Heap.SameBut.update ..
  generalize s.heap.update it (Obj.mapFields fun fs => fs.extract 0 3 ++ (ls.map fun (n : Nat) => rawInt n).toArray) = h1 at hz1 sb
  have hT1 : h1.IsTuple T xs := let ⟨o, ho, r⟩ := hT; ⟨o, sb.extBut _ _ (notT hz hT) ho, r⟩
  obtain ⟨o', ho', _, n', hd'⟩ := id hT1
  show wpAny _ _ ((Builtin.Itertools.itPoolItems (.ref T) >>= fun items => newTuple (ls.map fun i => items.getD i .none)) >>= _) _ _ _
  refine wpAny_bind (wpAny_bind (wpAny_bind (wpAny_seqItems ho' hd' (wpAny_pure ?_))))
  exact hand_out (s := { s with heap := h1 }) hz1 hT1 hl fun h2 z2 t2 n2 k2 => by
    have n1 : h1.objs.size = s.heap.objs.size := sb.1
    replace z2 : IsCmb h2 it T 1 (.ref h1.objs.size) ls := z2
    replace t2 : h2.get? h1.objs.size = some { cls := .type "tuple", data := .seq (picks xs ls).toArray } := t2
    replace n2 : h2.objs.size = h1.objs.size + 1 := n2
    show Q (.ref h1.objs.size) { s with heap := h2 }
    rw [n1] at z2 t2 n2 ⊢
    exact hQ h2 z2 t2 n2 fun c o ce q => k2 c o ce (sb.extBut _ _ ce q)
/-- StopIteration -/
theorem stops {Q : Fin → Shared → Prop} (hh : A.handled = none) (hE : ∀ e h', (∀ c o, s.heap.get? c = some o → h'.get? c = some o) → (∃ o, h'.get? e = some o ∧ o.cls = .type "StopIteration") → E (.ref e) { s with heap := h' }) :
    wpAny (model prog w) A (Builtin.Itertools.itStop (α := Fin)) Q E s := by
  unfold Builtin.Itertools.itStop
  refine wpAny_bind ?_
  simp only [newExc, newTuple]
  refine wpAny_bind (wpAny_newObj_type ?_ (by size_fits))
  refine wpAny_bind (m := firstArgMember _ _) (wpAny_of_eq (a := Value.none) (by first | rfl | (simp only [firstArgMember]; rfl)) ?_)
  refine wpAny_newObj_type ?_ (by size_fits)
  simp only [raiseNew]
  refine wpAny_bind (wpAny_handled ?_)
  rw [hh]
  refine wpAny_bind (wpAny_pure (wpAny_throw ?_))
  exact hE _ _ (fun c o q => Heap.get?_push_of_some _ (Heap.get?_push_of_some _ q)) ⟨_, Heap.get?_push_size _ rfl, rfl⟩
/-- at its end: behind the last item, or there never was one -/
theorem turn_end {st : Int} {Q : Fin → Shared → Prop} (hh : A.handled = none) (hz : IsCmb s.heap it T st bf ks) (hT : s.heap.IsTuple T xs) (hn : (st = 1 ∧ nxt xs.size ks = none) ∨ st = 2)
    (hE : ∀ e h', (∀ c o, c ≠ it → s.heap.get? c = some o → h'.get? c = some o) → (∃ o, h'.get? e = some o ∧ o.cls = .type "StopIteration") → E (.ref e) { s with heap := h' }) :
    wpAny (model prog w) A (Builtin.«itertools.combinations.__next__» ⟨[.ref it], []⟩) Q E s := by
  show wpAny _ _ (field (.ref it) 0 >>= _) _ _ s
  refine wpAny_bind (wpAny_field hz rfl (x := .ref T) rfl ?_)
  show wpAny _ _ (Builtin.Itertools.itNumbersFrom (.ref it) 3 >>= _) _ _ s
  refine wpAny_bind (nums_from hz ?_)
  show wpAny _ _ (Builtin.Itertools.itIntField (.ref it) 1 >>= _) _ _ s
  refine wpAny_bind (wpAny_bind (wpAny_field hz rfl (x := .int st 0) rfl (wpAny_pure ?_)))
  rcases hn with ⟨rfl, hn⟩ | rfl
  · obtain ⟨o, ho, _, n, hd⟩ := id hT
    show wpAny _ _ (Builtin.Itertools.itPoolItems (.ref T) >>= _) _ _ s
    refine wpAny_bind (wpAny_bind (wpAny_seqItems ho hd (wpAny_pure ?_)))
    show wpAny _ _ (match nxt xs.size ks with | some next => _ | none => _) _ _ s
    rw [hn]
    show wpAny _ _ (setField (.ref it) 1 (rawInt 2) >>= _) _ _ s
    refine wpAny_bind (wpAny_setField_rec hz (by simp [cells]) fun h1 _ hs1 => ?_)
    replace hs1 : Heap.SameBut it s.heap h1 := hs1
    exact stops (s := { s with heap := h1 }) hh fun e h' k x => hE e h' (fun c o ce q => k c o (hs1.extBut _ _ ce q)) x
  · show wpAny _ _ (rule "itertools.combinations.ended" >>= _) _ _ s
    refine wpAny_bind (wpAny_rule ?_)
    exact stops hh fun e h' k x => hE e h' (fun c o _ q => k c o q) x
/-- next(c) -/
theorem py_next {st : Int} {Q : Option Value → Shared → Prop} (hz : IsCmb s.heap it T st bf ks)
    (h : ∀ E' : Value → Shared → Prop, wpAny (model prog w) A.in1 (Builtin.«itertools.combinations.__next__» ⟨[.ref it], []⟩) (fun fin s' => ∃ v, fin = .done (.ret v) ∧ Q (some v) s') E' s) : wpAny (model prog w) A (pyNext (.ref it)) Q E s := by
  have hC : s.TypeIs (.ref it) "itertools.combinations" := ⟨_, hz, rfl⟩
  unfold pyNext
  refine wpAny_bind (wpAny_attempt (wpAny_callSpecial?_slot (name := Str.ofString "__next__") hC next_c (wpAny_call_entry next_c hC entryX_c ?_ (argsX_c _))))
  refine wpAny_mono (h _) (fun fin s' ⟨v, e, q⟩ => ?_) fun _ _ y => y
  subst e
  exact ⟨v, rfl, wpAny_pure q⟩
theorem py_end {st : Int} {Q : Option Value → Shared → Prop} (hh : A.handled = none) (hz : IsCmb s.heap it T st bf ks) (hT : s.heap.IsTuple T xs) (hn : (st = 1 ∧ nxt xs.size ks = none) ∨ st = 2)
    (hQ : ∀ h', (∀ c o, c ≠ it → s.heap.get? c = some o → h'.get? c = some o) → Q none { s with heap := h' }) : wpAny (model prog w) A (pyNext (.ref it)) Q E s := by
  have hC : s.TypeIs (.ref it) "itertools.combinations" := ⟨_, hz, rfl⟩
  unfold pyNext
  refine wpAny_bind (wpAny_attempt (wpAny_callSpecial?_slot (name := Str.ofString "__next__") hC next_c (wpAny_call_entry next_c hC entryX_c ?_ (argsX_c _))))
  refine turn_end (A := A.in1) hh hz hT hn fun e h' k ⟨o, ho, hc⟩ => ?_
  refine wpAny_bind (wpAny_isInstance (T := "StopIteration") (b := true) ⟨o, ho, hc⟩ isSubtype_stop ?_)
  exact wpAny_pure (hQ _ k)
theorem py_iter {st : Int} {Q : Value → Shared → Prop} (hz : IsCmb s.heap it T st bf ks) (h : Q (.ref it) s) : wpAny (model prog w) A (pyIter (.ref it)) Q E s := by
  have hC : s.TypeIs (.ref it) "itertools.combinations" := ⟨_, hz, rfl⟩
  refine wpAny_pyIter_slot hC iter_c (wpAny_call_entry iter_c hC entryI_c ?_ (argsI_c _))
  show wpAny _ _ (ret (.ref it)) _ _ s
  exact wpAny_pure ⟨_, rfl, "itertools.combinations", _, hC, next_c.lookup, h⟩
end
end CmbK

/-! for t in itertools.combinations(range(n), k) -/
namespace Lm
open PySem PySem.Spec PyProof.Rows L2 CmbK
/-- all places, one after another -/
structure PlacesOk (n k : Nat) (seq : List (List Nat)) : Prop where
  len : ∀ ks ∈ seq, ks.length = k ∧ ∀ i ∈ ks, i < n
  first : n < k ∧ seq = [] ∨ ¬ n < k ∧ seq[0]? = some (List.range k)
  next : ∀ i ks, seq[i]? = some ks → nxt n ks = seq[i + 1]?
def Itc (seq : List (List Nat)) : It where
  go := fun i _ => i < seq.length
  yld := fun i H v H' => ∃ (T : Addr) (o : Obj) (ks : List Nat), seq[i]? = some ks ∧ v = .ref T ∧ o.dict = none ∧ H T = none ∧ H' = upd H T (.frz o (.tup (ks.map fun (i : Nat) => V.int i)))
  stop := fun i _ => i = seq.length
theorem vals_picks {xs : Array Value} {n : Nat} (hx : ItemsOf (fun i v => ∃ t, v = .int (0 + i * 1) t) xs n) : ∀ {ks : List Nat}, (∀ i ∈ ks, i < n) → Vals (ks.map fun (i : Nat) => V.int i) (picks xs ks)
  | [], _ => .nil
  | k :: ks, h => by
    refine .cons ?_ (vals_picks hx fun i hi => h i (List.mem_cons_of_mem _ hi))
    have hk : k < xs.size := by rw [hx.1]; exact h k (by simp)
    obtain ⟨t, e⟩ := hx.2 k xs[k] (Array.getElem?_eq_getElem hk)
    refine ⟨t, ?_⟩
    show xs.getD k .none = _
    rw [Array.getD_eq_getD_getElem?, Array.getElem?_eq_getElem hk, Option.getD_some, e, Int.zero_add, Int.mul_one]
theorem turnCmb {P : Program} {w : World} {K : PySem.W.Frag} {tg : Expr} {it T : Addr} {n k : Nat} {seq : List (List Nat)} {xs : Array Value} (ok : PlacesOk n k seq) (hk : k ≤ 1000) (hx : ItemsOf (fun i v => ∃ t, v = .int (0 + i * 1) t) xs n) :
    Turn P w K tg (Itc seq) [it, T] it fun i h => ∃ bf st ks, IsCmb h it T st bf ks ∧ h.IsTuple T xs ∧ ((i = 0 ∧ st = 0 ∧ seq[0]? = some ks) ∨ (∃ j, i = j + 1 ∧ st = 1 ∧ seq[j]? = some ks) ∨ (seq = [] ∧ st = 2)) where
  mem := List.mem_cons_self
  obj := by
    rintro i h ⟨bf, st, ks, hz, ⟨o, ho, hc, m, hd⟩, _⟩ c hc'
    have e' : c = it ∨ c = T := by simpa using hc'
    rcases e' with q | q
    · rw [q]; exact ⟨_, hz, fun v q => nomatch q⟩
    · rw [q]; exact ⟨o, ho, fun v q => by rw [hd] at q; cases q⟩
  keep := by
    rintro i h h' ⟨bf, st, ks, hz, ⟨o, ho, r⟩, cs⟩ kk
    exact ⟨bf, st, ks, kk it (by simp) _ hz, ⟨o, kk T (by simp) _ ho, r⟩, cs⟩
  item := by
    intro X hP hw hK hc i pins s σ H E I hf ⟨bf, st, ks, hz, hT, cs⟩ hgo
    subst hP hw hK
    have hgo' : i < seq.length := hgo
    obtain ⟨ls, hls⟩ : ∃ ls, seq[i]? = some ls := ⟨_, List.getElem?_eq_getElem hgo'⟩
    obtain ⟨ll, lr⟩ := ok.len ls (List.mem_of_getElem? hls)
    have lx : xs.size = n := hx.1
    have lt : it < s.heap.objs.size := Heap.lt_size hz
    have ltT : T < s.heap.objs.size := by obtain ⟨o, ho, _⟩ := id hT; exact Heap.lt_size ho
    have neT := notT hz hT
    have step : ∀ {E' : Value → Shared → Prop} {Q : Value → Shared → Prop}, (∀ h', IsCmb h' it T 1 (.ref s.heap.objs.size) ls → h'.get? s.heap.objs.size = some { cls := .type "tuple", data := .seq (picks xs ls).toArray } → h'.objs.size = s.heap.objs.size + 1 →
        (∀ c o, c ≠ it → s.heap.get? c = some o → h'.get? c = some o) → Q (.ref s.heap.objs.size) { s with heap := h' }) →
        wpAny (model X.prog X.w) X.A.in1 (Builtin.«itertools.combinations.__next__» ⟨[.ref it], []⟩) (fun fin s' => ∃ v, fin = .done (.ret v) ∧ Q v s') E' s := fun {E' Q} hQ => by
      rcases cs with ⟨rfl, rfl, h0⟩ | ⟨j, rfl, rfl, hj⟩ | ⟨rfl, _⟩
      · rw [h0] at hls
        cases Option.some.inj hls
        exact turn_first (by omega) hz hT hQ
      · exact turn_next (by omega) hz hT (by rw [lx, ok.next j ks hj]; exact hls) hQ
      · simp at hgo'
    refine py_next hz fun E' => step fun h' z t nn kk => ⟨_, rfl, go_of (s := { s with heap := h' }) z rfl rfl (by decide) ?_⟩
    have I1 : Inv X pins σ (upd H s.heap.objs.size (.frz { cls := .type "tuple", data := .seq (picks xs ls).toArray } (.tup (ls.map fun (i : Nat) => V.int i)))) { s with heap := h' } :=
      I.turnedNew (t' := s.toks) (ch := [it]) (fun c o hb q => kk c o (fun q' => hb (by simp [q'])) q) (fun c hc => hf c (by simp at hc; simp [hc])) (Nat.le_refl _)
        ⟨t, by rw [List.length_map, sizeLine_eq]; omega, picks xs ls, vals_picks hx lr, ⟨_, t, rfl, _, rfl⟩⟩
    refine ⟨.ref s.heap.objs.size, _, I1, rfl, ⟨_, _, ls, hls, rfl, rfl, I.hok.fresh (Nat.le_refl _), rfl⟩, ⟨_, 1, ls, z, let ⟨o, ho, r⟩ := hT; ⟨o, kk _ _ neT ho, r⟩, .inr (.inl ⟨i, rfl, rfl, hls⟩)⟩, fun c hc => ?_⟩
    have lc : c < s.heap.objs.size := by
      have e' : c = it ∨ c = T := by simpa using hc
      rcases e' with q | q
      · rw [q]; exact lt
      · rw [q]; exact ltT
    rw [upd_ne (Nat.ne_of_lt lc)]
    exact (hf c hc).1
  done := by
    intro X hP hw hK hc i pins s σ H E I hf ⟨bf, st, ks, hz, hT, cs⟩ hst
    subst hP hw hK
    have hst' : i = seq.length := hst
    have lx : xs.size = n := hx.1
    refine py_end (I.ok.hd hc) hz hT ?_ fun h' kk => ⟨rfl, I.turnedL (t' := s.toks) (ch := [it, T]) (fun c o hb q => kk c o (fun q' => hb (by simp [q'])) q) hf⟩
    rcases cs with ⟨rfl, rfl, h0⟩ | ⟨j, rfl, rfl, hj⟩ | ⟨_, rfl⟩
    · rw [List.getElem?_eq_none (by omega)] at h0; cases h0
    · exact .inl ⟨rfl, by rw [lx, ok.next j ks hj, List.getElem?_eq_none (by omega)]⟩
    · exact .inr rfl
  self := fun A i s Q E ⟨bf, st, ks, hz, _⟩ h => py_iter hz h
/-- a range just made and a number: all places of so many of its items -/
def iComb (ta : TA) : TI := fun σ H R => ta σ H fun vs H1 => ∃ (p : Addr) (n k : Nat) (seq : List (List Nat)), vs = [.ref p, .int k] ∧ H1 p = some (.rng 0 n) ∧ n ≤ 1000 ∧ k ≤ 1000 ∧ PlacesOk n k seq ∧ R (Itc seq) H1
theorem pi_comb {X : Cx} {tg e e2 : Expr} {x : Str} {ta : TA} {p pos : Pos} (hc : X.calm = true) (hg : Gl X x) (hm : X.mg x = some (.type "itertools.combinations")) (ha : PA X [e, e2] ta) (hdb : (x == ("__debug__" : Str)) = false := by decide)
    (hs : starEach [e, e2] X.env = (false, eval e X.env) :: starEach [e2] X.env := by rfl) (hpl : (backTo pos (starEach [e2] X.env)).any (·.1) = false := by rfl) :
    PI X tg (.Call (.Name x p) [e, e2] [] pos) (iComb ta) := by
  refine ⟨fun pins s σ H R I h => ?_⟩
  refine wpAny_Call_Name_kw (ld_glob I hg hm (PyProof.Rows.callWith_type1 (thn (ha.run pos pins s σ H _ I h) fun us s1 ⟨vs, H1, I1, r1, q1⟩ => ?_) hs hpl) hdb)
  obtain ⟨a, n, k, seq, ev, hp, hn, hk, ok, q⟩ := q1
  subst ev
  cases r1 with
  | cons ra rr =>
    cases rr with
    | cons rb rr =>
      cases rr
      cases ra
      obtain ⟨tk0, rfl⟩ := rb
      obtain ⟨t, u, w, hr⟩ := I1.hok a _ hp
      refine callType_new called_c (by decide +kernel) (tcall_c _ _) (ncall_c _ _) (fun obj => PySem.F.args_object_init_3 obj _ _) entryN_c (meets_new a n k t u w tk0 hn hk) ⟨I1.ok.hd hc, hr, fun h' tk acc kk hi => ?_⟩
      have e1 : (h'.push { cls := .type "tuple", data := .seq acc }).objs.size = h'.objs.size + 1 := Heap.size_push ..
      have gT : (h'.push { cls := .type "tuple", data := .seq acc }).get? h'.objs.size = some { cls := .type "tuple", data := .seq acc } := Heap.get?_push_size _ rfl
      have gI : ((h'.push { cls := .type "tuple", data := .seq acc }).push { cls := .type "itertools.combinations", data := .fields (cells h'.objs.size (if n < k then 2 else 0) .none (List.range k)) }).get? (h'.objs.size + 1) = some { cls := .type "itertools.combinations", data := .fields (cells h'.objs.size (if n < k then 2 else 0) .none (List.range k)) } := by
        rw [← e1]
        exact Heap.get?_push_size _ rfl
      have gT2 : ((h'.push { cls := .type "tuple", data := .seq acc }).push { cls := .type "itertools.combinations", data := .fields (cells h'.objs.size (if n < k then 2 else 0) .none (List.range k)) }).get? h'.objs.size = some { cls := .type "tuple", data := .seq acc } := Heap.get?_push_of_some _ gT
      have up : ∀ b o, s1.heap.get? b = some o → ((h'.push { cls := .type "tuple", data := .seq acc }).push { cls := .type "itertools.combinations", data := .fields (cells h'.objs.size (if n < k then 2 else 0) .none (List.range k)) }).get? b = some o := fun b o z => Heap.get?_push_of_some _ (Heap.get?_push_of_some _ (kk b o z))
      have I' : Inv X pins σ H1 { s1 with heap := h', toks := tk } := I1.kept kk
      generalize (h'.push { cls := .type "tuple", data := .seq acc }).push { cls := .type "itertools.combinations", data := .fields (cells h'.objs.size (if n < k then 2 else 0) .none (List.range k)) } = hp2 at gI gT2 up
      have I2 : Inv X pins σ H1 { s1 with heap := hp2, toks := tk } := I1.kept up
      refine ⟨⟨_, gI, rfl⟩, py_iter gI ⟨h'.objs.size + 1, [h'.objs.size + 1, h'.objs.size], _, Itc seq, H1, rfl, I2, turnCmb ok hk hi, ⟨.none, _, List.range k, gI, ⟨_, gT2, rfl, _, rfl⟩, ?_⟩, fun b hb => ?_, q⟩⟩
      · rcases ok.first with ⟨z, w⟩ | ⟨z, w⟩
        · exact .inr (.inr ⟨w, if_pos z⟩)
        · exact .inl ⟨rfl, if_neg z, w⟩
      · have le : h'.objs.size ≤ b := by
          have e' : b = h'.objs.size + 1 ∨ b = h'.objs.size := by simpa using hb
          rcases e' with z | z
          · rw [z]; exact Nat.le_succ _
          · rw [z]; exact Nat.le_refl _
        exact I'.fpOk le (I'.hok.fresh le)
theorem walk_comb {seq : List (List Nat)} : Walk (Itc seq) seq.length (fun _ => True) fun i H v H' => ∃ (T : Addr) (o : Obj) (ks : List Nat), seq[i]? = some ks ∧ v = .ref T ∧ o.dict = none ∧ H T = none ∧ H' = upd H T (.frz o (.tup (ks.map fun (i : Nat) => V.int i))) where
  goes := fun _ _ hi _ => hi
  stops := fun _ _ => rfl
  yields := fun _ _ _ _ _ _ h => h
section
variable {c : Ct} {Γ : List (Option Rs)} {te : TE} {kd : Kd}
def plcD (ks : List Nat) : PyData := .tuple ((ks.map fun (i : Nat) => (i : Int)).map .int)
/-- for t in combinations(range(n), k) -/
theorem i_comb {n k : Nat} {seq : List (List Nat)} (h : Ev c te Γ kd (.int (n : Int))) (hn : n ≤ 1000) (hk : k ≤ 1000) (ok : PlacesOk n k seq) : EvI c (iComb (tCons (tCB rRng1 (tCons te tNil)) (tCons (tC (.int (k : Int))) tNil))) Γ true (seq.map fun ks => .d (plcD ks)) := fun H0 O H σ e R q =>
  h H0 O H σ e _ fun v H1 r s => by
    have ev := (Res.bo e s).int'
    subst ev
    refine ⟨(n : Int), rfl, fun p hp => ⟨p, n, k, seq, rfl, upd_same, hn, hk, ok, ?_⟩⟩
    have sm0 : Same H1 (upd H1 p (.rng 0 (n : Int))) := fun b o z => by rw [upd_ne (ne_of_none z hp)]; exact z
    have r2 : Rr c H (upd H1 p (.rng 0 (n : Int))) := r.tr (Rr.same sm0)
    refine q _ _ r2 ⟨(e.on r2).j, ?_⟩
    rw [List.length_map]
    refine walk_comb.mono (fun _ _ => trivial) fun i H' v H'' hi g w => ?_
    obtain ⟨T, o, ks, hks, rfl, ho, hT, rfl⟩ := w
    have sm : Same H' (upd H' T (.frz o (.tup (ks.map fun (i : Nat) => V.int i)))) := fun b o z => by rw [upd_ne (ne_of_none z hT)]; exact z
    refine ⟨sm, .d (plcD ks), by rw [List.getElem?_map, hks]; rfl, .leaf (.inl ⟨flatT _, .tup (.inl ⟨o, ho, upd_same⟩) ?_⟩)⟩
    have e1 : (ks.map fun (i : Nat) => V.int (i : Int)) = (ks.map fun (i : Nat) => (i : Int)).map V.int := by rw [List.map_map]; rfl
    rw [e1]
    exact BoAll.ofInts _
end
end Lm

/-! the places that combinations hands out -/
namespace Lm
open PySem PySem.Spec PyProof.Rows L2 CmbK
def cmbL : List Nat → Nat → List (List Nat)
  | _, 0 => [[]]
  | [], _ + 1 => []
  | a :: l, k + 1 => (cmbL l k).map (a :: ·) ++ cmbL l (k + 1)
def cmbs (n k : Nat) : List (List Nat) := cmbL (List.range n) k
def placesB (n k : Nat) (seq : List (List Nat)) : Bool :=
  seq.all (fun ks => ks.length == k && ks.all fun i => decide (i < n)) && (if n < k then seq.isEmpty else seq[0]? == some (List.range k)) && (List.range seq.length).all fun i => (seq[i]?.map (nxt n)) == some seq[i + 1]?
theorem places_of {n k : Nat} {seq : List (List Nat)} (h : placesB n k seq = true) : PlacesOk n k seq := by
  unfold placesB at h
  rw [Bool.and_eq_true, Bool.and_eq_true] at h
  obtain ⟨⟨h1, h2⟩, h3⟩ := h
  rw [List.all_eq_true] at h1 h3
  refine ⟨fun ks hk => ?_, ?_, fun i ks hi => ?_⟩
  · have := h1 ks hk
    rw [Bool.and_eq_true, beq_iff_eq, List.all_eq_true] at this
    exact ⟨this.1, fun i hi => of_decide_eq_true (this.2 i hi)⟩
  · by_cases q : n < k
    · rw [if_pos q] at h2
      exact .inl ⟨q, List.isEmpty_iff.mp h2⟩
    · rw [if_neg q, beq_iff_eq] at h2
      exact .inr ⟨q, h2⟩
  · have := h3 i (List.mem_range.mpr (List.getElem?_eq_some_iff.mp hi).1)
    rw [beq_iff_eq, hi, Option.map_some] at this
    exact Option.some.inj this
theorem places6 : ∀ n < 7, ∀ k < 8, placesB n k (cmbs n k) = true := by decide +kernel
theorem places20 : ∀ n < 21, placesB n 2 (cmbs n 2) = true := by decide +kernel
theorem cmb_ok {n k : Nat} (hn : n ≤ 6) (hk : k ≤ 7) : PlacesOk n k (cmbs n k) := places_of (places6 n (by omega) k (by omega))
theorem cmb_ok2 {n : Nat} (hn : n ≤ 20) : PlacesOk n 2 (cmbs n 2) := places_of (places20 n (by omega))
/-- the pairs, the first place first -/
def pairL (n : Nat) : List (List Nat) := (List.range n).flatMap fun i => (List.range (n - (i + 1))).map fun d => [i, i + 1 + d]
theorem cmb_pairs : ∀ n < 21, cmbs n 2 = pairL n := by decide +kernel
theorem mem_pairL {n : Nat} {ks : List Nat} : ks ∈ pairL n ↔ ∃ i j, ks = [i, j] ∧ i < j ∧ j < n := by
  unfold pairL
  simp only [List.mem_flatMap, List.mem_map, List.mem_range]
  constructor
  · rintro ⟨i, hi, d, hd, rfl⟩
    exact ⟨i, i + 1 + d, rfl, by omega, by omega⟩
  · rintro ⟨i, j, rfl, h1, h2⟩
    exact ⟨i, by omega, j - (i + 1), by omega, by congr; omega⟩
end Lm

/-! families of shares: the promises -/
namespace Lm
open PySem PySem.Spec PyProof.Rows L2
/-- a share of each variant but the control -/
structure Shr (r : List Int) (v : Int) : Prop where
  len : (r.length : Int) = v - 1
  nn : ∀ x ∈ r, 0 ≤ x
  sum : r.sum ≤ 10
structure Fam (F : List (List Int)) (v : Int) : Prop where
  v1 : 1 ≤ v
  v5 : v ≤ 5
  l1 : 1 ≤ F.length
  l5 : F.length ≤ 5
  shr : ∀ r ∈ F, Shr r v
/-- lists of different buckets below b, one for each of v variants -/
structure Lsts (L : List (List Int)) (v b : Int) : Prop where
  len : (L.length : Int) = v
  v4 : v ≤ 1000
  rng : ∀ r ∈ L, ∀ x ∈ r, 0 ≤ x ∧ x < b
  nd : ∀ r ∈ L, r.Nodup
  small : ∀ r ∈ L, r.length ≤ 1000
theorem Shr.le {r : List Int} {v : Int} (h : Shr r v) : ∀ x ∈ r, x ≤ 10 := fun x hx => by
  have := le_sum h.nn x hx
  have := h.sum
  omega
def sp_are_lists (K : PySem.W.Frag) : Sp := spD K fun ds k d => ∃ (L : List (List Int)) (v b : Int), ds = [.tuple (L.map tupD), .int v, .int b] ∧ Lsts L v b ∧ k = .v ∧ d = .bool true
def sp_is_tuple_of_shares (K : PySem.W.Frag) : Sp := spD K fun ds k d => ∃ (r : List Int) (v : Int), ds = [.tuple (r.map .int), .int v] ∧ Shr r v ∧ v ≤ 5 ∧ k = .v ∧ d = .bool true
def sp_is_family (K : PySem.W.Frag) : Sp := spD K fun ds k d => ∃ (F : List (List Int)) (v : Int), ds = [.tuple (F.map tupD), .int v] ∧ Fam F v ∧ k = .v ∧ d = .bool true
def sp_check_family (K : PySem.W.Frag) : Sp := spD K fun ds k d => ∃ (F : List (List Int)) (v : Int), ds = [.int v, .tuple (F.map tupD)] ∧ Fam F v ∧ k = .v ∧ d = .none
end Lm

/-! which lists serve which shares -/
namespace Lm
open PySem PySem.Spec PyProof.Rows L2
variable {L F : List (List Int)} {r s : List Int} {v b : Int}
/-- what of a list is used -/
def hdL (L : List (List Int)) (r : List Int) (i : Nat) : List Int := (L.getD i []).take (r.getD i 0).toNat
/-- long enough, and none twice -/
def OkF (L : List (List Int)) (r : List Int) : Prop := (∀ i < r.length, r.getD i 0 ≤ ((L.getD i []).length : Int)) ∧ ∀ i j, i < j → j < r.length → ∀ x ∈ hdL L r i, x ∉ hdL L r j
theorem hd_sub {i : Nat} (h : s.getD i 0 ≤ r.getD i 0) {x : Int} (hx : x ∈ hdL L s i) : x ∈ hdL L r i := by
  unfold hdL at *
  exact List.take_subset_take_left _ (by omega) hx
theorem OkF.less (h : OkF L r) (hl : s.length = r.length) (hs : ∀ i < s.length, s.getD i 0 ≤ r.getD i 0) : OkF L s := by
  refine ⟨fun i hi => ?_, fun i j hij hj x hx => ?_⟩
  · have := hs i hi
    have := h.1 i (by omega)
    omega
  · intro hy
    exact h.2 i j hij (by omega) x (hd_sub (hs i (by omega)) hx) (hd_sub (hs j hj) hy)
/-- all that is used -/
def catF (L : List (List Int)) (r : List Int) : List Int := (List.range r.length).flatMap (hdL L r)
theorem cat_nodup (nd : ∀ t ∈ L, t.Nodup) : (catF L r).Nodup ↔ ∀ i j, i < j → j < r.length → ∀ x ∈ hdL L r i, x ∉ hdL L r j := by
  unfold catF List.Nodup
  rw [List.pairwise_flatMap]
  constructor
  · rintro ⟨_, h⟩ i j hij hj x hx hy
    have := List.pairwise_iff_getElem.mp h i j (by simp; omega) (by simpa using hj) hij
    simp only [List.getElem_range] at this
    exact this x hx x hy rfl
  · intro h
    refine ⟨fun i hi => ?_, ?_⟩
    · unfold hdL
      refine List.Pairwise.sublist (List.take_sublist _ _) ?_
      rw [List.getD_eq_getElem?_getD]
      cases q : L[i]? with
      | none => exact .nil
      | some t => exact nd t (List.mem_of_getElem? q)
    · rw [List.pairwise_iff_getElem]
      intro i j hi hj hij x hx y hy e
      simp only [List.getElem_range] at hx hy
      exact h i j hij (by simpa using hj) x hx (e ▸ hy)
theorem count_one (l : List Int) : (∀ x ∈ l, l.count x = 1) ↔ l.Nodup := by
  constructor
  · intro h
    rw [List.nodup_iff_count]
    intro x
    by_cases m : x ∈ l
    · rw [h x m]; exact Nat.le_refl _
    · rw [List.count_eq_zero_of_not_mem m]; omega
  · intro h x hx
    have h1 := List.nodup_iff_count.mp h x
    have h2 := List.count_pos_iff.mpr hx
    omega
/-- the shares that are allowed -/
def AllF (F : List (List Int)) (s : List Int) : Prop := ∃ r ∈ F, s.length = r.length ∧ ∀ i < s.length, 0 ≤ s.getD i 0 ∧ s.getD i 0 ≤ r.getD i 0
theorem all_ok (hF : ∀ r ∈ F, ∀ i < r.length, 0 ≤ r.getD i 0) : (∀ r ∈ F, OkF L r) ↔ ∀ s, AllF F s → OkF L s := by
  constructor
  · rintro h s ⟨r, hr, hl, hs⟩
    exact (h r hr).less hl fun i hi => (hs i hi).2
  · intro h r hr
    exact h r ⟨r, hr, rfl, fun i hi => ⟨hF r hr i hi, Int.le_refl _⟩⟩
/-- what two lists share -/
def comF (L : List (List Int)) (r : List Int) (i j : Nat) : List Int := (hdL L r i).filter fun x => decide (x ∈ hdL L r j)
def shortF (L : List (List Int)) (r : List Int) : Option Nat := (List.range r.length).find? fun i => decide (((L.getD i []).length : Int) < r.getD i 0)
def clashF (L : List (List Int)) (r : List Int) : Option (List Nat) := (pairL r.length).find? fun p => !(comF L r (p.getD 0 0) (p.getD 1 0)).isEmpty
/-- why shares are not served -/
def faultD (L : List (List Int)) (r : List Int) : Option (List PyData) :=
  match shortF L r with
  | some i => some [.tuple [.int ((i : Int) + 1)], .none]
  | none => match clashF L r with
    | some p => some [.tuple [.int ((p.getD 0 0 : Nat) + 1), .int ((p.getD 1 0 : Nat) + 1)], .int (mnL (comF L r (p.getD 0 0) (p.getD 1 0)))]
    | none => none
theorem fault_none : faultD L r = none ↔ OkF L r := by
  have h1 : shortF L r = none ↔ ∀ i < r.length, r.getD i 0 ≤ ((L.getD i []).length : Int) := by
    unfold shortF
    rw [List.find?_eq_none]
    simp only [List.mem_range, decide_eq_true_eq]
    exact ⟨fun h i hi => by have := h i hi; omega, fun h i hi => by have := h i hi; omega⟩
  have h2 : clashF L r = none ↔ ∀ i j, i < j → j < r.length → ∀ x ∈ hdL L r i, x ∉ hdL L r j := by
    unfold clashF
    rw [List.find?_eq_none]
    constructor
    · intro h i j hij hj x hx hy
      have := h [i, j] (mem_pairL.mpr ⟨i, j, rfl, hij, hj⟩)
      have e : comF L r i j = [] := by simpa using this
      have m : x ∈ comF L r i j := List.mem_filter.mpr ⟨hx, decide_eq_true hy⟩
      rw [e] at m
      cases m
    · intro h p hp
      obtain ⟨i, j, rfl, hij, hj⟩ := mem_pairL.mp hp
      have e : comF L r i j = [] := by
        unfold comF
        rw [List.filter_eq_nil_iff]
        intro x hx
        simpa using h i j hij hj x hx
      simp [e]
  unfold faultD OkF
  rw [← h1, ← h2]
  cases shortF L r with
  | some i => simp
  | none =>
    cases clashF L r with
    | some p => simp
    | none => simp
/-- the first shares that are not served, and why -/
def firstF (L : List (List Int)) : Nat → List (List Int) → PyData
  | _, [] => .none
  | i, r :: F => match faultD L r with
    | some ds => .tuple (.int (i : Int) :: ds)
    | none => firstF L (i + 1) F
theorem first_none : ∀ {F : List (List Int)} {i : Nat}, firstF L i F = .none ↔ ∀ r ∈ F, OkF L r
  | [], _ => by simp [firstF]
  | r :: F, i => by
    unfold firstF
    cases h : faultD L r with
    | some ds =>
      have : ¬ OkF L r := fun w => by rw [fault_none.mpr w] at h; cases h
      simp [this]
    | none =>
      rw [first_none]
      have := fault_none.mp h
      simp [this]
end Lm

/-! enumerate(t, start=k), t a tuple -/
namespace Lm
open PySem PySem.Spec PyProof.Rows L2
section
variable {M : Model} {A : Around} {E : Value → Shared → Prop} {s : Shared}
/-- T(e, .., k=v, ..), T a built-in class -/
theorem callTyKw {env : PySem.Env} {pos : Pos} {T : String} {e : Expr} {rest : List Expr} {kws : List Keyword} {Q : Value → Shared → Prop}
    (h : wpAny M A (spliced (backTo pos (starEach (e :: rest) env))) (fun vs s1 => wpAny M A (evalAll ((backToKw pos (keywordEach kws env)).map (·.2))) (fun ws s2 => wpAny M A (call (.type T) vs (((backToKw pos (keywordEach kws env)).filterMap (·.1)).zip ws)) Q E s2) E s1) E s)
    (he : backTo pos (starEach (e :: rest) env) = (false, eval e env) :: backTo pos (starEach rest env) := by rfl)
    (hpl : (backTo pos (starEach (e :: rest) env)).any (·.1) = false := by rfl)
    (hall : (backToKw pos (keywordEach kws env)).all (·.1.isSome) = true := by rfl)
    (hno : (backToKw pos (keywordEach kws env)).any (·.1.isNone) = false := by rfl) :
    wpAny M A (callWith pos (.type T) [] (backTo pos (starEach (e :: rest) env)) (backToKw pos (keywordEach kws env))) Q E s := by
  have args : wpAny M A (evalArgs (.type T) true (backTo pos (starEach (e :: rest) env)) (backToKw pos (keywordEach kws env))) (fun a s1 => wpAny M A (call (.type T) a.pos a.kw) Q E s1) E s := by
    rw [he] at h ⊢
    exact evalArgs_kwB hall h
  unfold callWith
  refine wpAny_bind (wpAny_holding (wpAny_mono args (fun a s1 q => wpAny_bind (wpAny_standAt ?_)) fun _ _ x => x))
  simp only [hpl, hno, Bool.or_false]
  exact wpAny_bind (wpAny_pure (wpAny_bind (wpAny_mono q (fun r s2 qr => wpAny_bind (wpAny_holding (wpAny_point (wpAny_pure qr)))) fun _ _ x => x)))
end
/-- what is drawn, told by later numbers -/
theorem drawsUp {prog : Program} {w : World} {A : Around} {it : Addr} {fp : List Addr} {n : Nat} {P : Nat → Value → Prop} {St : Nat → Heap → Prop} (D : Draws prog w A it fp n P St) (m : Nat) :
    Draws prog w A it fp (n + m) (fun j v => ∃ i, j = i + m ∧ P i v) (fun j h => ∃ i, j = i + m ∧ St i h) where
  live := fun _ h ⟨i, _, st⟩ => D.live i h st
  frame := fun _ h h' ⟨i, e, st⟩ k => ⟨i, e, D.frame i h h' st k⟩
  item := fun j s Q E hj ⟨i, e, st⟩ q => D.item i s Q E (by omega) st fun x h' tk px sn sb => q x h' tk ⟨i, e, px⟩ ⟨i + 1, by omega, sn⟩ sb
  done := fun s Q E ⟨i, e, st⟩ q => D.done s Q E (by have : n = i := by omega
                                                     rw [this]; exact st) q
def IteS (K : PySem.W.Frag) (m : Nat) (a : Addr) : It where
  go := fun i H => ∃ (xs : List V) (x : V), SqT K H a xs ∧ xs[i]? = some x
  yld := fun i H v H' => ∃ T x, v = .ref T ∧ H T = none ∧ H' = upd H T (.tup [.int ((i + m : Nat) : Int), x]) ∧ ∀ xs, SqT K H a xs → xs[i]? = some x
  stop := fun i H => ∃ xs : List V, SqT K H a xs ∧ xs.length = i
theorem turnEnumS {P : Program} {w : World} {K : PySem.W.Frag} {elts : List Expr} {kk m : Nat} {tpos : Pos} (a e it : Addr) :
    Turn P w K (.Tuple elts kk tpos) (IteS K m a) [e, it] e fun i h => (∃ old, IsEnum h e it ((i + m : Nat) : Int) old) ∧ h.IsTupleIter it a i ∧ e ≠ it ∧ a ≠ it where
  mem := List.mem_cons_self
  obj := by
    rintro i h ⟨⟨old, he⟩, ⟨o, ho, _, hd⟩, _⟩ b hb
    have e' : b = e ∨ b = it := by simpa using hb
    rcases e' with q | q
    · rw [q]; exact ⟨_, he, fun v q => nomatch q⟩
    · rw [q]; exact ⟨o, ho, fun v q => by rw [hd] at q; cases q⟩
  keep := by
    rintro i h h' ⟨⟨old, he⟩, hi, hne⟩ k
    exact ⟨⟨old, k e (by simp) _ he⟩, hi.at fun o q => k it (by simp) o q, hne⟩
  item := by
    intro X hP hw hK hc i pins s σ H E I hf ⟨⟨old, he⟩, hit, hne, hai⟩ ⟨xs, x, hq, hx⟩
    subst hP hw hK
    obtain ⟨its, rv, p, hz⟩ := I.tuple hq
    obtain ⟨u, hu, ru⟩ := rv.get hx
    have hlt : i < its.toArray.size := by rw [List.size_toArray]; exact (List.getElem?_eq_some_iff.mp hu).1
    have hel := Heap.lt_size he
    have hil : it < s.heap.objs.size := let ⟨_, q, _⟩ := hit; Heap.lt_size q
    have hea : e ≠ a := fun z => by
      obtain ⟨ob, g, gc, n, gd⟩ := p
      rw [← z, he] at g
      cases g
      exact absurd gc (by simp)
    have D := drawsUp (Draws.tuple (prog := X.prog) (w := X.w) (A := X.A.in1) (show X.A.in1.handled = none from I.ok.hd hc) it a hai its.toArray) m
    refine PySem.wpAny_pyNext_enum_itemD D he ⟨i, rfl, hit, p⟩ (by omega) hne (by simpa [hne] using hea) fun x' h' tk hx' ho hs' hT hsz hk => ?_
    obtain ⟨i', ei, hx'⟩ := hx'
    have : i' = i := by omega
    subst this
    have ex : x' = u := by
      have : its[i']? = some x' := by simpa using hx'
      rw [hu] at this
      exact (Option.some.inj this).symm
    subst ex
    refine ⟨_, rfl, wpAny_letOwnedTupleGo_enum (s := { s with heap := h', toks := tk + 1 }) ho fun h'' he' sb => ?_⟩
    have hT2 := (sb.2 _ (Nat.ne_of_gt hel)).trans hT
    have new : ObjOk X.prog X.w (upd H s.heap.objs.size (.tup [.int ((i' + m : Nat) : Int), x])) h'' s.heap.objs.size (.tup [.int ((i' + m : Nat) : Int), x]) :=
      ⟨(by decide : 2 ≤ sizeLine), [.int ((i' + m : Nat) : Int) tk, x'], .cons ⟨_, rfl⟩ (.cons ru .nil), _, hT2, rfl, _, rfl⟩
    have I1 := I.turnedNew (t' := tk + 1) (ch := [e, it]) (fun b ob hb q => (sb.2 b fun z => hb (by simp [z])).trans (hk b ob (fun z => hb (by simp [z])) (fun z => hb (by simp [z])) q)) hf (Nat.le_refl _) new
    obtain ⟨i2, e2, hs2⟩ := hs'
    have : i2 = i' + 1 := by omega
    subst this
    refine ⟨.ref s.heap.objs.size, _, I1, rfl, ⟨_, x, rfl, I.hok.fresh (Nat.le_refl _), rfl, fun ys hy => by rw [I.tuple_inj hy hq]; exact hx⟩, ⟨⟨x', ?_⟩, hs2.1.at fun o q => (sb.2 it hne.symm).trans q, hne, hai⟩, fun b hb => ?_⟩
    · have e1 : ((i' + 1 + m : Nat) : Int) = ((i' + m : Nat) : Int) + 1 := by omega
      rw [e1]; exact he'
    · have hb' : b < s.heap.objs.size := by
        have e' : b = e ∨ b = it := by simpa using hb
        rcases e' with q | q
        · rw [q]; exact hel
        · rw [q]; exact hil
      rw [upd_ne (Nat.ne_of_lt hb')]
      exact (hf b hb).1
  done := by
    intro X hP hw hK hc i pins s σ H E I hf ⟨⟨old, he⟩, hit, hne, hai⟩ ⟨xs, hq, hx⟩
    subst hP hw hK
    obtain ⟨its, rv, p, hz⟩ := I.tuple hq
    obtain ⟨f0, f1, f2, f3, f4, f5⟩ := hf it (by simp)
    have hl : its.toArray.size = i := by rw [List.size_toArray, ← rv.length]; exact hx
    have D := drawsUp (Draws.tuple (prog := X.prog) (w := X.w) (A := X.A.in1) (show X.A.in1.handled = none from I.ok.hd hc) it a hai its.toArray) m
    rw [hl] at D
    exact PySem.wpAny_pyNext_enum_endD D he ⟨i, rfl, hit, p⟩ fun h' eb => ⟨rfl, I.turned (t' := s.toks) (fun b o hb q => eb b o hb q) f0 f1 f3 f4 f5⟩
  self := fun A i s Q E ⟨⟨_, he⟩, _⟩ h => wpAny_pyIter_enum he h
def iEnumS (K : PySem.W.Frag) (m : Nat) (ta : TA) : TI := fun σ H R => ta σ H fun vs H1 => ∃ a xs, vs = [.ref a] ∧ SqT K H1 a xs ∧ R (IteS K m a) H1
theorem pi_enumS {X : Cx} {e : Expr} {ta : TA} {p pos tpos q1 q2 : Pos} {elts : List Expr} {kk m : Nat} {x1 : Nat} (hg : Gl X "enumerate") (hm : X.mg "enumerate" = none) (hm2 : m < 1000000) (ha : PA X [e] ta) (hk : PE X (.Constant (.int (m : Int)) x1 q1) (tC (.int (m : Int))))
    (he1 : backTo pos (starEach [e] X.env) = (false, eval e X.env) :: backTo pos (starEach [] X.env) := by rfl) (hp1 : (backTo pos (starEach [e] X.env)).any (·.1) = false := by rfl) :
    PI X (.Tuple elts kk tpos) (.Call (.Name "enumerate" p) [e] [⟨some "start", .Constant (.int (m : Int)) x1 q1, q2⟩] pos) (iEnumS X.K m ta) := by
  refine ⟨fun pins s σ H R I h => ?_⟩
  refine wpAny_Call_Name_kw (ld_blt I hg hm boot_enumerate (callTyKw (thn (ha.run pos pins s σ H _ I h) fun us s1 ⟨vs, H1, I1, r1, q1⟩ => ?_) he1 hp1))
  refine PyProof.Rows.kws_cons (thn (hk.run pins s1 σ H1 (fun x H' => x = .int (m : Int) ∧ H' = H1) I1 ⟨rfl, rfl⟩) fun w s2 ⟨x, H2, I2, r2, ex, eh⟩ => PyProof.Rows.kws_nil ?_)
  subst ex eh
  obtain ⟨t, rfl⟩ := r2
  obtain ⟨a, xs, rfl, hq, q⟩ := q1
  obtain ⟨u, rfl, ru⟩ := vals1 r1
  cases ru
  obtain ⟨its, rv, p', hz⟩ := I2.tuple hq
  have la : a < s2.heap.objs.size := let ⟨_, g, _⟩ := p'; Heap.lt_size g
  have fresh2 : ∀ b ∈ [s2.heap.objs.size + 1, s2.heap.objs.size], FpOk X pins H2 b := fun b hb => by
    have hle : s2.heap.objs.size ≤ b := by
      have e' : b = s2.heap.objs.size + 1 ∨ b = s2.heap.objs.size := by simpa using hb
      rcases e' with z | z
      · rw [z]; exact Nat.le_succ _
      · rw [z]; exact Nat.le_refl _
    exact I2.fpOk hle (I2.hok.fresh hle)
  refine enum_begins_start (begins_tuple a its.toArray) p' (by omega) (by omega) fun h' he ho hsz kk => wpAny_pyIter_enum he ?_
  exact ⟨_, _, _, _, H2, rfl, I2.kept (t' := s2.toks) kk, turnEnumS (m := m) a (s2.heap.objs.size + 1) s2.heap.objs.size, ⟨⟨.none, by rw [Nat.zero_add]; exact he⟩, ⟨_, ho, rfl, rfl⟩, Nat.succ_ne_self _, Nat.ne_of_lt la⟩, fresh2, q⟩
theorem walk_enumS {K : PySem.W.Frag} {a : Addr} {m : Nat} {xs : List V} : Walk (IteS K m a) xs.length (fun H => SqT K H a xs) (YPair (fun i => some (.int ((i + m : Nat) : Int))) fun i => xs[i]?) where
  goes := fun i _ hi q => ⟨xs, xs[i], q, List.getElem?_eq_getElem hi⟩
  stops := fun _ q => ⟨xs, q, rfl⟩
  yields := fun i H v H' _ q ⟨T, x, h1, h2, h3, h4⟩ => ⟨T, _, x, h1, h2, h3, rfl, h4 xs q⟩
section
variable {c : Ct} {Γ : List (Option Rs)} {tr : TA} {ds : List PyData} {m : Nat}
def enumS (m : Nat) (ds : List PyData) : List Im := ds.zipIdx.map fun p => .t [.d (.int ((p.2 + m : Nat) : Int)), .d p.1]
/-- enumerate(t, start=m) -/
theorem i_enumS (h : EvA c tr Γ true [.tuple ds]) : EvI c (iEnumS c.K m tr) Γ true (enumS m ds) := fun H0 O H σ e R q =>
  h H0 O H σ e _ fun vs H1 r s => by
    obtain ⟨x, rfl, b⟩ := (BoAll.vm s).one
    obtain ⟨p, xs, rfl, sl, al⟩ := b.tup'
    refine ⟨p, xs, rfl, (sqT_same mns_same sl).sq, q _ H1 r ⟨(e.on r).j, ?_⟩⟩
    have hl : xs.length = (enumS m ds).length := by rw [al.len]; simp [enumS]
    rw [← hl]
    refine (walk_enumS (m := m)).mono (fun H h => (h.tup (e.on r).j sl).sq) fun i H v H' hi g y => ?_
    obtain ⟨T, x1, x2, rfl, hT, rfl, g1, g2⟩ := y
    cases g1
    obtain ⟨d, hd, bd⟩ := al.get g2
    have sm : Same H (upd H T (.tup [.int ((i + m : Nat) : Int), x2])) := fun b o z => by rw [upd_ne (ne_of_none z hT)]; exact z
    refine ⟨sm, .t [.d (.int ((i + m : Nat) : Int)), .d d], ?_, .tup (.inl (.inl upd_same)) (.cons (.leaf (.inl ⟨rfl, .int _⟩)) (.cons (.leaf (.inr ⟨rfl, bd⟩)) .nil))⟩
    simp [enumS, hd]
end
section
variable {X : Cx} {K : PySem.W.Frag} (hK : X.K = K)
include hK
theorem k_enumS {e : Expr} {ta : TA} {p pos tpos q1 q2 : Pos} {elts : List Expr} {kk m : Nat} {x1 : Nat} (hg : Gl X "enumerate") (hm : X.mg "enumerate" = none) (hm2 : m < 1000000) (ha : PA X [e] ta) (hk : PE X (.Constant (.int (m : Int)) x1 q1) (tC (.int (m : Int))))
    (he1 : backTo pos (starEach [e] X.env) = (false, eval e X.env) :: backTo pos (starEach [] X.env) := by rfl) (hp1 : (backTo pos (starEach [e] X.env)).any (·.1) = false := by rfl) :
    PI X (.Tuple elts kk tpos) (.Call (.Name "enumerate" p) [e] [⟨some "start", .Constant (.int (m : Int)) x1 q1, q2⟩] pos) (iEnumS K m ta) := hK ▸ pi_enumS hg hm hm2 ha hk he1 hp1
end
end Lm

/-! faults of lists: the promises -/
namespace Lm
open PySem PySem.Spec PyProof.Rows L2
variable {L F : List (List Int)} {r s : List Int} {v b : Int}
def fltD : Option (List PyData) → PyData
  | some ds => .tuple ds
  | none => .none
theorem flat_flt : flatD (fltD (faultD L r)) = true := by
  unfold faultD
  cases shortF L r with
  | some i => rfl
  | none => cases clashF L r <;> rfl
theorem enumS_rows {L : List (List Int)} {m : Nat} : enumS m (L.map tupD) = (List.range L.length).map fun i => .t [.d (.int ((i + m : Nat) : Int)), .d (tupD (L.getD i []))] := by
  apply List.ext_getElem
  · simp [enumS]
  · intro i h1 h2
    have h : i < L.length := by simpa using h2
    simp [enumS, List.getD_eq_getElem?_getD, h]
theorem enumI_rows {L : List (List Int)} : enumI (L.map tupD) = (List.range L.length).map fun i => .t [.d (.int (i : Nat)), .d (tupD (L.getD i []))] := by
  apply List.ext_getElem
  · simp [enumI]
  · intro i h1 h2
    have h : i < L.length := by simpa using h2
    simp [enumI, List.getD_eq_getElem?_getD, h]
theorem drop_at {F : List (List Int)} {n : Nat} (h : n < F.length) : F.drop n = F.getD n [] :: F.drop (n + 1) := by
  rw [List.drop_eq_getElem_cons h, List.getD_eq_getElem?_getD, List.getElem?_eq_getElem h]
  rfl
theorem flat_first {L : List (List Int)} : ∀ {F : List (List Int)} {i : Nat}, flatD (firstF L i F) = true
  | [], _ => rfl
  | r :: F, i => by
    unfold firstF
    have := flat_flt (L := L) (r := r)
    cases h : faultD L r with
    | some ds =>
      rw [h] at this
      have f : flatAll ds = true := this
      simp [flatD, flatAll, f]
    | none => exact flat_first
def hdsL (L : List (List Int)) (r : List Int) : List (List Int) := (List.range r.length).map (hdL L r)
theorem hds_at {i : Nat} (h : i < r.length) : atI ((hdsL L r).map tupD) (i : Int) = some (tupD (hdL L r i)) := by
  rw [at_tup (by simpa [hdsL] using h)]
  simp [hdsL, List.getD_eq_getElem?_getD, h]
theorem hds_zip (h : L.length = r.length) : (L.zip r).map (fun p => p.1.take p.2.toNat) = hdsL L r := by
  apply List.ext_getElem
  · simp [hdsL, h]
  · intro i h1 h2
    have hi : i < r.length := by simpa [hdsL] using h2
    have hj : i < L.length := by omega
    simp [hdsL, hdL, List.getD_eq_getElem?_getD, hi, hj]
theorem zipD_sh {L : List (List Int)} {r : List Int} : zipD (L.map tupD) (r.map .int) = (L.zip r).map fun p => .t [.d (tupD p.1), .d (.int p.2)] := by
  unfold zipD
  rw [List.zip_map, List.map_map]
  rfl
def sp_first_fault (K : PySem.W.Frag) : Sp := spD K fun ds k d => ∃ (L : List (List Int)) (r : List Int) (v b : Int), ds = [.tuple (r.map .int), .tuple (L.map tupD)] ∧ Shr r v ∧ Lsts L (v - 1) b ∧ 1 ≤ v ∧ v ≤ 5 ∧ k = .v ∧ d = fltD (faultD L r)
def sp_fault (K : PySem.W.Frag) : Sp := spD K fun ds k d => ∃ (L F : List (List Int)) (v : Int), ds = [.int v, .tuple (F.map tupD), .tuple (L.map tupD)] ∧ Fam F v ∧ Lsts L (v - 1) 1001 ∧ k = .v ∧ d = firstF L 0 F
end Lm

/-! drawn families -/
namespace Lm
open PySem PySem.Spec PyProof.Rows L2
/-- a drawn family: so many variants at most, so much at most -/
structure FamT (F : List (List Int)) (v m t : Int) : Prop where
  fam : Fam F v
  vm : v ≤ m
  sum : ∀ r ∈ F, r.sum ≤ t
def sp__law_family (K : PySem.W.Frag) : Sp := spS K fun ds k Q => ∃ m t : Int, ds = [.int m, .int t] ∧ 1 ≤ m ∧ m ≤ 5 ∧ 0 ≤ t ∧ t ≤ 10 ∧ k = .o ∧ Q = fun d => ∃ F v, d = .list [.int v, .tuple (F.map tupD)] ∧ FamT F v m t
def sp__law_is_served (K : PySem.W.Frag) : Sp := spD K fun ds k d => ∃ (L : List (List Int)) (r : List Int) (v b : Int), ds = [.tuple (r.map .int), .tuple (L.map tupD)] ∧ Shr r v ∧ Lsts L (v - 1) b ∧ 1 ≤ v ∧ v ≤ 5 ∧ k = .v ∧ d = .bool (faultD L r).isNone
def sp__law_first_fault (K : PySem.W.Frag) : Sp := spD K fun ds k d => ∃ (L F : List (List Int)) (v b : Int), ds = [.tuple (F.map tupD), .tuple (L.map tupD)] ∧ Fam F v ∧ Lsts L (v - 1) b ∧ k = .v ∧ d = firstF L 0 F
theorem clash_here {n i j : Nat} {p : List Nat → Bool} (hij : i < j) (hj : j < n) (h1 : ∀ i' < i, ∀ j', i' < j' → j' < n → p [i', j'] = false) (h2 : ∀ j', i < j' → j' < j → p [i, j'] = false) (h3 : p [i, j] = true) : (pairL n).find? p = some [i, j] := by
  have e : List.range n = List.range i ++ (i :: (List.range (n - (i + 1))).map fun d => i + 1 + d) := by
    obtain ⟨m, rfl⟩ : ∃ m, n = i + 1 + m := ⟨n - (i + 1), by omega⟩
    rw [List.range_add, List.range_succ, List.append_assoc, Nat.add_sub_cancel_left]
    rfl
  have none1 : ((List.range i).flatMap fun i => (List.range (n - (i + 1))).map fun d => [i, i + 1 + d]).find? p = none := by
    rw [List.find?_eq_none]
    intro x hx
    simp only [List.mem_flatMap, List.mem_map, List.mem_range] at hx
    obtain ⟨i', hi', d, hd, rfl⟩ := hx
    rw [h1 i' hi' _ (by omega) (by omega)]
    decide
  have here : ((List.range (n - (i + 1))).map fun d => [i, i + 1 + d]).find? p = some [i, j] := by
    rw [List.find?_map]
    have f : (List.range (n - (i + 1))).find? (p ∘ fun d => [i, i + 1 + d]) = some (j - (i + 1)) := by
      refine find_here (by omega) ?_ (by show p [i, i + 1 + (j - (i + 1))] = true; rw [show i + 1 + (j - (i + 1)) = j by omega]; exact h3)
      rw [List.find?_eq_none]
      intro d hd
      have hd' := List.mem_range.mp hd
      show ¬ p [i, i + 1 + d] = true
      rw [h2 _ (by omega) (by omega)]
      decide
    rw [f, Option.map_some, show i + 1 + (j - (i + 1)) = j by omega]
  unfold pairL
  rw [e, List.flatMap_append, List.flatMap_cons, List.find?_append, none1, List.find?_append, here]
  rfl
theorem upI_atm {lo : Int} {n m : Nat} {a : Im} (h : ((upI lo n).map fun i => Im.d (.int i))[m]? = some a) : m < n ∧ a = .d (.int (lo + (m : Int))) := by
  unfold upI at h
  rw [List.map_map, List.getElem?_map] at h
  cases q : (List.range n)[m]? with
  | none => rw [q] at h; cases h
  | some k =>
    rw [q] at h
    have hm := (List.getElem?_eq_some_iff.mp q).1
    rw [List.length_range] at hm
    rw [List.getElem?_range hm] at q
    cases Option.some.inj q
    exact ⟨hm, (Option.some.inj h).symm⟩
theorem count_eqv (ns : List Int) (x : Int) : (ns.map PyData.int).countP (fun z => PyData.eqv z (.int x)) = ns.count x := by
  rw [List.countP_map]
  unfold List.count
  apply List.countP_congr
  intro y _
  simp [PyData.eqv]
end Lm

/-! the allowed shares of a family -/
namespace Lm
open PySem PySem.Spec PyProof.Rows L2
section
variable {X : Cx} {K : PySem.W.Frag} (hK : X.K = K)
include hK
theorem k_notInD (hu : X.A.units + 65 < cLine) : OpR X (compareOp .NotIn) (rNotInD K) := hK ▸ op_notInD hu
end
theorem e_notInD {c : Ct} {Γ : List (Option Rs)} {ta tb : TE} {ka kb : Kd} {d : PyData} {ds : List PyData} (ha : Ev c ta Γ ka d) (hb : Ev c tb Γ kb (.list ds)) (sd : SeqAt.shaped d = true) (sl : SeqAt.shaped (.list ds) = true) : Ev c (tOp (rNotInD c.K) ta tb) Γ .v (.bool (!(ds.any fun z => PyData.eqv z d))) :=
  d_bin ha hb fun H O v u Q bv bu q => ⟨d, ds, bv.dp, bu.dp, sd, sl, q _ H Rr.rf (.bl _)⟩
def extL (S : List (List Int)) (x : Int) : List (List Int) := S.flatMap fun o => (upI 0 (x + 1).toNat).map fun l => o ++ [l]
def dnL (r : List Int) : List (List Int) := r.foldl extL [[]]
def alwL (F : List (List Int)) : List (List Int) := F.foldl (fun A r => A ++ (dnL r).filter fun o => decide (o ∉ A)) []
theorem mem_dn : ∀ (r : List Int) (S : List (List Int)) (s : List Int), s ∈ r.foldl extL S ↔ ∃ o ∈ S, ∃ q : List Int, s = o ++ q ∧ q.length = r.length ∧ ∀ i < q.length, 0 ≤ q.getD i 0 ∧ q.getD i 0 ≤ r.getD i 0
  | [], S, s => by
    constructor
    · intro h
      exact ⟨s, h, [], by simp, rfl, by simp⟩
    · rintro ⟨o, ho, q, rfl, hl, _⟩
      rw [List.length_eq_zero_iff.mp hl, List.append_nil]
      exact ho
  | x :: r, S, s => by
    rw [List.foldl_cons, mem_dn r]
    constructor
    · rintro ⟨o, ho, q, rfl, hl, hq⟩
      obtain ⟨o', ho', h⟩ := List.mem_flatMap.mp ho
      obtain ⟨l, hl', rfl⟩ := List.mem_map.mp h
      have hm := mem_upI.mp hl'
      refine ⟨o', ho', l :: q, by simp, by simp [hl], fun i hi => ?_⟩
      cases i with
      | zero => simp; omega
      | succ i =>
        have := hq i (by simpa using hi)
        simpa using this
    · rintro ⟨o, ho, q, rfl, hl, hq⟩
      cases q with
      | nil => simp at hl
      | cons l q =>
        have h0 := hq 0 (by simp)
        simp at h0
        refine ⟨o ++ [l], List.mem_flatMap.mpr ⟨o, ho, List.mem_map.mpr ⟨l, mem_upI.mpr (by omega), rfl⟩⟩, q, by simp, by simpa using hl, fun i hi => ?_⟩
        have := hq (i + 1) (by simpa using hi)
        simpa using this
theorem mem_alwF (F : List (List Int)) : ∀ (A : List (List Int)) (s : List Int), s ∈ F.foldl (fun A r => A ++ (dnL r).filter fun o => decide (o ∉ A)) A ↔ s ∈ A ∨ ∃ r ∈ F, s ∈ dnL r := by
  induction F with
  | nil => intro A s; simp
  | cons r F ih =>
    intro A s
    rw [List.foldl_cons, ih]
    simp only [List.mem_append, List.mem_filter, decide_eq_true_eq, List.mem_cons, exists_eq_or_imp]
    by_cases h : s ∈ A <;> simp [h]
theorem mem_alw {F : List (List Int)} {s : List Int} : s ∈ alwL F ↔ AllF F s := by
  unfold alwL AllF
  rw [mem_alwF]
  simp only [List.not_mem_nil, false_or]
  constructor
  · rintro ⟨r, hr, h⟩
    obtain ⟨o, ho, q, rfl, hl, hq⟩ := (mem_dn r _ s).mp h
    rw [List.mem_singleton.mp ho, List.nil_append]
    exact ⟨r, hr, hl, hq⟩
  · rintro ⟨r, hr, hl, hq⟩
    exact ⟨r, hr, (mem_dn r _ s).mpr ⟨[], by simp, s, rfl, hl, hq⟩⟩
theorem ext_len {S : List (List Int)} {x : Int} (hx : x ≤ 10) : (extL S x).length ≤ 11 * S.length := by
  unfold extL
  induction S with
  | nil => simp
  | cons o S ih =>
    rw [List.flatMap_cons, List.length_append, List.length_map, List.length_cons]
    have : (upI 0 (x + 1).toNat).length ≤ 11 := by simp [upI]; omega
    omega
theorem anyRows (l : List (List Int)) (g : List Int) : (l.map tupD).any (fun z => PyData.eqv z (tupD g)) = decide (g ∈ l) := by
  rw [Bool.eq_iff_iff, List.any_eq_true, decide_eq_true_iff]
  constructor
  · rintro ⟨z, hz, e⟩
    obtain ⟨r, hr, rfl⟩ := List.mem_map.mp hz
    rw [show PyData.eqv (tupD r) (tupD g) = decide (r = g) from eqvT r g, decide_eq_true_iff] at e
    rwa [e] at hr
  · intro hr
    exact ⟨tupD g, List.mem_map.mpr ⟨g, hr, rfl⟩, by rw [show PyData.eqv (tupD g) (tupD g) = decide (g = g) from eqvT g g]; simp⟩
theorem dn_len {r o : List Int} (h : o ∈ dnL r) : o.length = r.length := by
  obtain ⟨o', ho, q, rfl, hl, _⟩ := (mem_dn r _ o).mp h
  rw [List.mem_singleton.mp ho, List.nil_append, hl]
def sp__law_allowed (K : PySem.W.Frag) : Sp := spD K fun ds k d => ∃ (F : List (List Int)) (v : Int), ds = [.tuple (F.map tupD)] ∧ Fam F v ∧ k = .o ∧ d = .list ((alwL F).map tupD)
def sp__law_lists (K : PySem.W.Frag) : Sp := spS K fun ds k Q => ∃ (F : List (List Int)) (v m : Int), ds = [.tuple (F.map tupD), .int v, .int m] ∧ Fam F v ∧ 0 ≤ m ∧ m ≤ 1000 ∧ k = .v ∧ Q = fun d => ∃ L, d = .tuple (L.map tupD) ∧ Lsts L (v - 1) 1001
end Lm

/-! == of plain data, forms of data, a drawn test behind a plain one -/
namespace Lm
open PySem PySem.Spec PyProof.Rows L2
mutual
/-- no truth values, no dicts: == is being equal -/
def plD : PyData → Bool
  | .none => true
  | .int _ => true
  | .str _ => true
  | .list ds => plAll ds
  | .tuple ds => plAll ds
  | _ => false
def plAll : List PyData → Bool
  | [] => true
  | d :: ds => plD d && plAll ds
end
theorem pl_mem {ds : List PyData} (h : ∀ d ∈ ds, plD d = true) : plAll ds = true := by
  induction ds with
  | nil => rfl
  | cons d ds ih =>
    show (plD d && plAll ds) = true
    rw [h d (by simp), ih fun e he => h e (by simp [he])]
    rfl
theorem pl_ints (ns : List Int) : plAll (ns.map PyData.int) = true := pl_mem fun d hd => by
  obtain ⟨n, _, rfl⟩ := List.mem_map.mp hd
  rfl
theorem pl_tup (ns : List Int) : plD (tupD ns) = true := pl_ints ns
theorem pl_rows (l : List (List Int)) : plAll (l.map tupD) = true := pl_mem fun d hd => by
  obtain ⟨n, _, rfl⟩ := List.mem_map.mp hd
  exact pl_tup n
mutual
theorem eqv_pl : ∀ {x y : PyData}, plD x = true → plD y = true → (PyData.eqv x y = true ↔ x = y)
  | .none, .none, _, _ => by simp [PyData.eqv]
  | .int i, .int j, _, _ => by simp [PyData.eqv]
  | .str i, .str j, _, _ => by simp [PyData.eqv]
  | .list xs, .list ys, h, g => by
    have := eqv_plA (xs := xs) (ys := ys) h g
    simp only [PyData.eqv, this, PyData.list.injEq]
  | .tuple xs, .tuple ys, h, g => by
    have := eqv_plA (xs := xs) (ys := ys) h g
    simp only [PyData.eqv, this, PyData.tuple.injEq]
  | .none, .int _, _, _ | .none, .str _, _, _ | .none, .list _, _, _ | .none, .tuple _, _, _ => by simp [PyData.eqv]
  | .int _, .none, _, _ | .int _, .str _, _, _ | .int _, .list _, _, _ | .int _, .tuple _, _, _ => by simp [PyData.eqv]
  | .str _, .none, _, _ | .str _, .int _, _, _ | .str _, .list _, _, _ | .str _, .tuple _, _, _ => by simp [PyData.eqv]
  | .list _, .none, _, _ | .list _, .int _, _, _ | .list _, .str _, _, _ | .list _, .tuple _, _, _ => by simp [PyData.eqv]
  | .tuple _, .none, _, _ | .tuple _, .int _, _, _ | .tuple _, .str _, _, _ | .tuple _, .list _, _, _ => by simp [PyData.eqv]
  | .bool _, _, h, _ | .dict _, _, h, _ => by simp [plD] at h
  | .none, .bool _, _, g | .none, .dict _, _, g | .int _, .bool _, _, g | .int _, .dict _, _, g | .str _, .bool _, _, g | .str _, .dict _, _, g | .list _, .bool _, _, g | .list _, .dict _, _, g | .tuple _, .bool _, _, g | .tuple _, .dict _, _, g => by simp [plD] at g
theorem eqv_plA : ∀ {xs ys : List PyData}, plAll xs = true → plAll ys = true → (PyData.eqvAll xs ys = true ↔ xs = ys)
  | [], [], _, _ => by simp [PyData.eqvAll]
  | [], _ :: _, _, _ => by simp [PyData.eqvAll]
  | _ :: _, [], _, _ => by simp [PyData.eqvAll]
  | x :: xs, y :: ys, h, g => by
    have h' : (plD x && plAll xs) = true := h
    have g' : (plD y && plAll ys) = true := g
    rw [Bool.and_eq_true] at h' g'
    have e1 := eqv_pl (x := x) (y := y) h'.1 g'.1
    have e2 := eqv_plA (xs := xs) (ys := ys) h'.2 g'.2
    simp only [PyData.eqvAll, Bool.and_eq_true, e1, e2, List.cons.injEq]
end
theorem eqv_rf {x : PyData} (h : plD x = true) : PyData.eqv x x = true := (eqv_pl h h).mpr rfl
/-- data of a depth of at most n, all of it to be compared -/
def Sh (n : Nat) (d : PyData) : Prop := d.canLay0 = true ∧ d.depth ≤ n
theorem Sh.ok {n : Nat} {d : PyData} (h : Sh n d) (hn : n ≤ 64) : SeqAt.shaped d = true := by
  unfold SeqAt.shaped
  rw [h.1, decide_eq_true (by have := h.2; omega)]
  rfl
theorem sh_non : Sh n .none := ⟨rfl, by simp [PyData.depth]⟩
theorem sh_int {i : Int} : Sh n (.int i) := ⟨rfl, by simp [PyData.depth]⟩
theorem sh_bool {i : Bool} : Sh n (.bool i) := ⟨rfl, by simp [PyData.depth]⟩
theorem sh_all {n : Nat} : ∀ {ds : List PyData}, (∀ d ∈ ds, Sh n d) → PyData.canLayAll0 ds = true ∧ PyData.depthAll ds ≤ n
  | [], _ => ⟨rfl, by simp [PyData.depthAll]⟩
  | d :: ds, h => by
    have a := h d (by simp)
    have b := sh_all (ds := ds) fun e he => h e (List.mem_cons_of_mem _ he)
    refine ⟨?_, ?_⟩
    · show (d.canLay0 && PyData.canLayAll0 ds) = true
      rw [a.1, b.1]; rfl
    · show max d.depth (PyData.depthAll ds) ≤ n
      have := a.2; have := b.2; omega
theorem sh_tup {n : Nat} {ds : List PyData} (h : ∀ d ∈ ds, Sh n d) : Sh (n + 1) (.tuple ds) := by
  have := sh_all h
  exact ⟨this.1, by show PyData.depthAll ds + 1 ≤ _; omega⟩
theorem sh_lst {n : Nat} {ds : List PyData} (h : ∀ d ∈ ds, Sh n d) : Sh (n + 1) (.list ds) := by
  have := sh_all h
  exact ⟨this.1, by show PyData.depthAll ds + 1 ≤ _; omega⟩
theorem Sh.up {n m : Nat} {d : PyData} (h : Sh n d) (hn : n ≤ m) : Sh m d := ⟨h.1, Nat.le_trans h.2 hn⟩
theorem sh_ints {n : Nat} (ns : List Int) : Sh (n + 1) (tupD ns) := sh_tup fun d hd => by
  obtain ⟨i, _, rfl⟩ := List.mem_map.mp hd
  exact sh_int
theorem sh_intL {n : Nat} (ns : List Int) : Sh (n + 1) (.list (ns.map .int)) := sh_lst fun d hd => by
  obtain ⟨i, _, rfl⟩ := List.mem_map.mp hd
  exact sh_int
theorem sh_rows {n : Nat} (l : List (List Int)) : ∀ d ∈ l.map tupD, Sh (n + 1) d := fun d hd => by
  obtain ⟨i, _, rfl⟩ := List.mem_map.mp hd
  exact sh_ints i
section
variable {c : Ct} {Γ : List (Option Rs)} {ta tb : TE} {tt tu : TT} {ka kb : Kd} {d e : PyData} {a : Bool}
theorem tn_and (h : EvT c tt Γ a) (g : a = true → EvTN c tu Γ) : EvTN c (tAnd tt tu) Γ := fun H0 O H σ e Q q => h H0 O H σ e _ fun H2 r => by
  cases a with
  | true => exact iteT (g rfl H0 O H2 σ (e.on r) _ fun b H3 r3 => q b H3 (r.tr r3))
  | false => exact iteF (q false H2 r)
end
end Lm

/-! len(set(rows)): rows of ints, in a tuple or in a list -/
namespace Lm
open PySem PySem.Spec PyProof.Rows L2
section
variable {prog : Program} {w : World} {A : Around} {E : Value → Shared → Prop} {s : Shared}
/-- a new set -/
abbrev nwS (w : World) : Obj := { cls := .type "set", dict := none, data := .set #[] 0 (.fresh 0 0 (!w.params.followText "set-order")) }
abbrev nwH (w : World) (h : Heap) : Heap := h.push (nwS w)
theorem setOfRows {l : Addr} {items : Array Value} (ks : List (Addr × List Int)) {Q : Value → Shared → Prop} (hh : A.handled = none) (hl : s.heap.IsTuple l items) (hit : items.toList = ks.map fun p => Value.ref p.1)
    (hk : ∀ p ∈ ks, IsT prog w s.heap p.2 p.1) (hfew : ks.length < 64) (hu : A.units + 3 < cLine)
    (h : ∀ (g : Heap) (tk : Nat) L es ep t, SetTR prog w g s.heap.objs.size L es ep t → Got ks ks.length L → (∀ b o, s.heap.get? b = some o → g.get? b = some o) → Q (.ref s.heap.objs.size) { s with heap := g, toks := tk }) :
    wpAny (model prog w) A (call (.type "set") [.ref l]) Q E s := by
  have sz : items.size = ks.length := by rw [← Array.length_toList, hit, List.length_map]
  obtain ⟨_, _, hmro⟩ := F.called_set.mro; have hmade := F.called_set.made; have hsub := F.called_set.sub
  refine wpAny_call (codeAny_of_tree ?_); show wpAny _ _ (callAny (.type "set") _) _ _ _; refine wpAny_pure ⟨Code.quiet_builtin _ (by decide +kernel), codeAny_builtin F.entry_type_call ?_⟩
  rw [Around.under_plain (weight_type_call_type "set" [Value.ref l] []) rfl]
  have h1 := F.called_set.notType; have h2 := F.called_set.canCreate; have hct := F.typeCall_set_1 (.ref l)
  repeat (any_goals (first | (assumption) | wp_step))
  refine codeAny_mono (code_set_led1 (.ref l) (E := E) (Q₁ := fun ob t => ob = .ref s.heap.objs.size ∧ t = { s with heap := nwH w s.heap }) ⟨rfl, rfl⟩) fun r s1 hr => ?_
  cases r with
  | error e => exact hr
  | ok fl =>
    cases fl with
    | ret obj =>
      obtain ⟨rfl, rfl⟩ := hr
      have hS : (nwH w s.heap).get? s.heap.objs.size = some (nwS w) := Heap.get?_push_size _ rfl
      have hT : Shared.TypeIs { s with heap := nwH w s.heap } (.ref s.heap.objs.size) "set" := ⟨_, hS, rfl⟩
      have hli := F.called_set.init.lookup; have hbi := F.called_set.init.bind (.ref s.heap.objs.size)
      repeat (any_goals (first | (assumption) | wp_step))
      refine codeAny_mono (codeAny_call_builtin (R := wants (fun r t2 => r = .none ∧ ∃ g tk L es ep t, t2 = { s with heap := g, toks := tk } ∧ SetTR prog w g s.heap.objs.size L es ep t ∧ Got ks ks.length L ∧ (∀ b o, s.heap.get? b = some o → g.get? b = some o)) E)
        F.called_set.init.plain F.entry_set_init (check_set_init_1 hT ?_)) fun r2 t2 hr2 => ?_
      · obtain ⟨⟨oc, od, odt, osl⟩, hol, hcl, nl, hdl⟩ := hl
        simp only at hcl hdl; subst hcl; subst hdl
        have hol' : (nwH w s.heap).get? l = some { cls := .type "tuple", dict := od, data := .seq items nl, slots := osl } := Heap.get?_push_of_some _ hol
        have hsls := F.sub_tuple_set; have hslf := F.sub_tuple_frozenset; have hne : (Value.type "tuple" == Value.type "dict") = false := by decide
        have hl1 : (nwH w s.heap).IsTuple l items := ⟨_, hol', rfl, nl, rfl⟩
        unfold Builtin.«set.__init__» noKeywords; unfold Builtin.Frozenset.updateFrom
        generalize hPI : pyIter = PI; wp_walk; subst hPI
        refine wpAny_pyIter_tuple hl1 ?_; refine wpAny_bind (wpAny_runValue ?_)
        have lS : l < s.heap.objs.size := Heap.lt_size hol
        have hh3 : A.in1.in1.in1.handled = none := by simp [hh]
        have z1 : (nwH w s.heap).objs.size = s.heap.objs.size + 1 := Heap.size_push _ _
        have neI : l ≠ (nwH w s.heap).objs.size := by rw [z1]; exact Nat.ne_of_lt (Nat.lt_succ_of_lt lS)
        have sf : s.heap.objs.size ∉ [(nwH w s.heap).objs.size, l] := by
          rw [z1]; simp only [List.mem_cons, List.not_mem_nil, or_false, not_or]
          exact ⟨Nat.ne_of_lt (Nat.lt_succ_self _), Nat.ne_of_gt lS⟩
        have hval : ∀ (i : Nat) (v : Value), items[i]? = some v → ∃ p, ks[i]? = some p ∧ v = .ref p.1 := by
          intro i v hv
          have q : items.toList[i]? = some v := by simpa using hv
          rw [hit, List.getElem?_map] at q
          cases hq : ks[i]? with
          | none => rw [hq] at q; cases q
          | some p => rw [hq] at q; exact ⟨p, rfl, (Option.some.inj q).symm⟩
        have nof : ∀ b, s.heap.objs.size ≤ b → s.heap.get? b = none := by
          intro b hb
          cases q : s.heap.get? b with
          | none => rfl
          | some o => exact (Nat.lt_irrefl _ (Nat.lt_of_lt_of_le (Heap.lt_size q) hb)).elim
        refine set_update_tups ((Walks.tuple hh3 _ l neI items).toS) s.heap.objs.size sf ks sz hfew hval s.heap hk (nof _ (Nat.le_refl _))
          (fun b hb => nof b (by rw [List.mem_singleton.mp hb, z1]; exact Nat.le_succ _)) hu (items.size - 0) 0 _ (by omega) (Nat.zero_le _)
          ⟨⟨_, Heap.get?_push_size _ rfl, rfl, rfl⟩, (hl1.push _)⟩ (fun b o e => Heap.get?_push_of_some _ (Heap.get?_push_of_some _ e)) ?hA ?hB
        case hA =>
          have hget : ((nwH w s.heap).push { cls := .type "tuple_iterator", data := .fields #[.ref l, .int 0 0] }).get? s.heap.objs.size = some (nwS w) := Heap.get?_push_of_some _ hS
          exact ⟨[], #[], 0, _, setTR_fresh hget, Got.zero ks⟩
        case hB =>
          intro s3 L es ep t hm hS3 g3 hkp
          obtain ⟨h3, g2, d3, tk3, os3⟩ := s3
          have eg : g2 = s.gens := hm.gens; have ed : d3 = s.drawn := hm.drawn; have eo : os3 = s.os := hm.os
          subst eg ed eo
          show wpAny _ _ _ _ _ _; refine wpAny_pure ?_; show wpAny _ _ (ret Value.none) _ _ _
          rw [sz] at g3
          exact wpAny_pure ⟨rfl, h3, tk3, L, es, ep, t, rfl, hS3, g3, hkp⟩
      · cases r2 with
        | error e => exact hr2
        | ok fl2 =>
          cases fl2 with
          | ret r =>
            obtain ⟨rfl, g, tk, L, es, ep, t, rfl, hS2, g2, hk2⟩ := hr2
            repeat (any_goals (first | (assumption) | wp_step))
            exact h g tk L es ep t hS2 g2 hk2
          | _ => exact hr2.elim
    | _ => exact hr.elim
end
section
variable {X : Cx}
/-- each row once -/
def ddR : List (List Int) → List (List Int)
  | [] => []
  | r :: l => if r ∈ l then ddR l else r :: ddR l
theorem mem_ddR {m : List Int} : ∀ {l : List (List Int)}, m ∈ ddR l ↔ m ∈ l
  | [] => by simp [ddR]
  | n :: l => by
    unfold ddR
    split
    · rename_i h
      rw [mem_ddR, List.mem_cons]
      exact ⟨.inr, fun w => w.elim (fun z => z ▸ h) id⟩
    · rw [List.mem_cons, List.mem_cons, mem_ddR]
theorem nd_ddR : ∀ {l : List (List Int)}, (ddR l).Nodup
  | [] => List.nodup_nil
  | n :: l => by
    unfold ddR
    split
    · exact nd_ddR
    · rename_i h
      exact List.nodup_cons.mpr ⟨fun w => h (mem_ddR.mp w), nd_ddR⟩
theorem ddR_le : ∀ {l : List (List Int)}, (ddR l).length ≤ l.length
  | [] => Nat.le_refl _
  | n :: l => by
    have := ddR_le (l := l)
    unfold ddR
    split <;> simp only [List.length_cons] <;> omega
theorem ddR_self : ∀ {l : List (List Int)}, l.Nodup → ddR l = l
  | [], _ => rfl
  | n :: l, h => by
    have h' := List.nodup_cons.mp h
    unfold ddR
    rw [if_neg h'.1, ddR_self h'.2]
theorem ddR_iff : ∀ {l : List (List Int)}, (ddR l).length = l.length ↔ l.Nodup
  | [] => by simp [ddR]
  | n :: l => by
    have h1 := ddR_le (l := l)
    have ih := ddR_iff (l := l)
    unfold ddR
    split
    · rename_i h
      constructor
      · intro e; simp only [List.length_cons] at e; omega
      · intro e; exact absurd h (List.nodup_cons.mp e).1
    · rename_i h
      rw [List.nodup_cons, List.length_cons, List.length_cons, ← ih]
      constructor
      · intro e; exact ⟨h, by omega⟩
      · rintro ⟨_, e⟩; omega
theorem len_sub {α : Type} [DecidableEq α] : ∀ {as bs : List α}, as.Nodup → (∀ k, k ∈ as → k ∈ bs) → as.length ≤ bs.length
  | [], _, _, _ => Nat.zero_le _
  | a :: as, bs, ha, h => by
    have hm : a ∈ bs := h a (by simp)
    obtain ⟨hna, hnd⟩ := List.nodup_cons.mp ha
    have := len_sub (bs := bs.erase a) hnd fun k q => (List.mem_erase_of_ne fun (z : k = a) => hna (by rw [← z]; exact q)).mpr (h k (by simp [q]))
    rw [List.length_erase_of_mem hm] at this
    have : 0 < bs.length := List.length_pos_of_mem hm
    simp only [List.length_cons]
    omega
theorem got_len {ks L : List (Addr × List Int)} (nd : (L.map (·.2)).Nodup) (g : Got ks ks.length L) : (L.map (·.2)).length = (ddR (ks.map (·.2))).length := by
  have t : ks.take ks.length = ks := List.take_length
  refine Nat.le_antisymm (len_sub nd fun r hr => mem_ddR.mpr ?_) (len_sub nd_ddR fun r hr => ?_)
  · obtain ⟨p, hp, rfl⟩ := List.mem_map.mp hr
    have := g.sub p hp
    rw [t] at this
    exact List.mem_map_of_mem this
  · obtain ⟨p, hp, rfl⟩ := List.mem_map.mp (mem_ddR.mp hr)
    exact g.all p (by rw [t]; exact hp)
/-- how many different rows -/
def tLenSetR (K : PySem.W.Frag) (ta : TE) : TE := fun σ H Q => ta σ H fun x H1 => ∃ (l : Addr) (ks : List (Addr × List Int)), x = .ref l ∧ (SqT K H1 l (ks.map fun p => V.ref p.1) ∨ SqL K H1 l (ks.map fun p => V.ref p.1)) ∧ (∀ p ∈ ks, SqT K H1 p.1 (p.2.map V.int)) ∧ ks.length < 64 ∧ Q (.int ((ddR (ks.map (·.2))).length : Nat)) H1
theorem pe_lenSetR {a : Expr} {ta : TE} {p p2 q pos : Pos} (hg : Gl X "len") (hm : X.mg "len" = none) (hg2 : Gl X "set") (hm2 : X.mg "set" = none) (ha : PE X a ta) (hu : X.A.units + 65 < cLine) (hc : X.calm = true := by rfl)
    (na : starEach [a] X.env = (false, eval a X.env) :: starEach [] X.env := by rfl) : PE X (.Call (.Name "len" p) [.Call (.Name "set" p2) [a] [] q] [] pos) (tLenSetR X.K ta) := by
  refine ⟨fun pins s σ H Q I h => ?_⟩
  refine Call_ (ld_blt I hg hm boot_len (PyProof.Rows.callWith_builtin1 (PyProof.Rows.args_cons ?_ rfl) rfl rfl))
  refine Call_ (ld_blt I hg2 hm2 boot_set ?_)
  refine PyProof.Rows.callWith_type1 (PyProof.Rows.args_cons (thn (ha.run pins s σ H _ I h) fun v s1 ⟨x, H1, I1, r1, q1⟩ => PyProof.Rows.args_nil ?_) na) na rfl
  obtain ⟨l, ks, rfl, hq, hks, hl, q1⟩ := q1
  cases r1
  rcases hq with hq | hq
  · obtain ⟨its, r, pl, hz⟩ := I1.tuple hq
    refine setOfRows ks (I1.ok.hd hc) (show s1.heap.IsTuple l its.toArray from pl) (by simpa using refs_of_vals r) (fun p hp => I1.isT (hks p hp)) hl (Nat.lt_of_le_of_lt (Nat.add_le_add_left (by decide) _) hu) fun g tk L es ep t hS hG hk => ?_
    refine PyProof.Rows.args_nil ?_
    obtain ⟨o, ho, hex, hd⟩ := hS.ob
    have sz2 := hS.size (s := { s1 with heap := g, toks := tk })
    have I2 : Inv X pins σ H1 { s1 with heap := g, toks := tk } := I1.kept fun b o e => hk b o e
    have eL : es.size = (ddR (ks.map (·.2))).length := by rw [sz2, ← got_len hS.nd hG, List.length_map]
    have lt := hS.few
    exact call_len_set ho hex hd (hS.fits (s := { s1 with heap := g, toks := tk })) (by rw [sz2]; omega) ⟨.int _, H1, I2.tok _, ⟨_, by rw [eL]⟩, q1⟩
  · obtain ⟨its, r, pl, hz⟩ := I1.list hq
    refine call_set_tups (P := X.prog) (w := X.w) ks (I1.ok.hd hc) pl.isList (by simpa using refs_of_vals r) (fun p hp => I1.isT (hks p hp)) hl (Nat.lt_of_le_of_lt (Nat.add_le_add_left (by decide) _) hu) fun g tk L es ep t hS hG hk => ?_
    refine PyProof.Rows.args_nil ?_
    obtain ⟨o, ho, hex, hd⟩ := hS.ob
    have sz2 := hS.size (s := { s1 with heap := g, toks := tk })
    have I2 : Inv X pins σ H1 { s1 with heap := g, toks := tk } := I1.kept fun b o e => hk b o e
    have eL : es.size = (ddR (ks.map (·.2))).length := by rw [sz2, ← got_len hS.nd hG, List.length_map]
    have lt := hS.few
    exact call_len_set ho hex hd (hS.fits (s := { s1 with heap := g, toks := tk })) (by rw [sz2]; omega) ⟨.int _, H1, I2.tok _, ⟨_, by rw [eL]⟩, q1⟩
section
variable {K : PySem.W.Frag} (hK : X.K = K)
include hK
theorem k_lenSetR {a : Expr} {ta : TE} {p p2 q pos : Pos} (hg : Gl X "len") (hm : X.mg "len" = none) (hg2 : Gl X "set") (hm2 : X.mg "set" = none) (ha : PE X a ta) (hu : X.A.units + 65 < cLine) (hc : X.calm = true := by rfl)
    (na : starEach [a] X.env = (false, eval a X.env) :: starEach [] X.env := by rfl) : PE X (.Call (.Name "len" p) [.Call (.Name "set" p2) [a] [] q] [] pos) (tLenSetR K ta) := hK ▸ pe_lenSetR hg hm hg2 hm2 ha hu hc na
end
end
section
variable {c : Ct} {H : Hp} {Γ : List (Option Rs)} {ta : TE} {ka : Kd}
theorem BoAll.rows : ∀ {A : List (List Int)} {xs : List V}, BoAll c H xs (A.map tupD) → ∃ ks : List (Addr × List Int), xs = ks.map (fun p => V.ref p.1) ∧ ks.map (·.2) = A ∧ ∀ p ∈ ks, SqT c.K H p.1 (p.2.map V.int)
  | [], _, .nil => ⟨[], rfl, rfl, by simp⟩
  | r :: A, _, .cons a b => by
    obtain ⟨p, ys, rfl, tp, al⟩ := (show Bo c H _ (.tuple (r.map .int)) from a).tup'
    have := al.ints
    subst this
    obtain ⟨ks, rfl, rfl, h⟩ := BoAll.rows b
    refine ⟨(p, r) :: ks, rfl, rfl, fun q hq => ?_⟩
    rcases List.mem_cons.mp hq with w | w
    · rw [w]; exact tp.sq
    · exact h q w
theorem e_lenSetT {A : List (List Int)} (h : Ev c ta Γ ka (.tuple (A.map tupD))) (hl : A.length < 64) : Ev c (tLenSetR c.K ta) Γ .v (.int ((ddR A).length : Nat)) := fun H0 O H σ e Q q =>
  h H0 O H σ e _ fun v H1 r1 s1 => by
    obtain ⟨p, xs, rfl, s, al⟩ := (Res.bo e s1).tup'
    obtain ⟨ks, rfl, rfl, hk⟩ := al.rows
    exact ⟨p, ks, rfl, .inl s.sq, hk, by simpa using hl, q _ H1 r1 (.int _)⟩
theorem e_lenSetL {A : List (List Int)} (h : Ev c ta Γ ka (.list (A.map tupD))) (hl : A.length < 64) : Ev c (tLenSetR c.K ta) Γ .v (.int ((ddR A).length : Nat)) := fun H0 O H σ e Q q =>
  h H0 O H σ e _ fun v H1 r1 s1 => by
    obtain ⟨p, xs, rfl, _, s, al⟩ := (Res.bo e s1).lst'
    obtain ⟨ks, rfl, rfl, hk⟩ := al.rows
    exact ⟨p, ks, rfl, .inr s, hk, by simpa using hl, q _ H1 r1 (.int _)⟩
end
end Lm

/-! in and not in over tuples or lists of data -/
namespace Lm
open PySem PySem.Spec PyProof.Rows L2
def rInU (K : PySem.W.Frag) (neg : Bool) : R2 := fun x y H Q => ∃ d ds, Dp K H x d ∧ (Dp K H y (.list ds) ∨ Dp K H y (.tuple ds)) ∧ SeqAt.shaped d = true ∧ SeqAt.shaped (.tuple ds) = true ∧ Q (.bl (if neg then !(ds.any fun z => PyData.eqv z d) else ds.any fun z => PyData.eqv z d)) H
section
variable {X : Cx}
theorem op_inU (hu : X.A.units + 65 < cLine) : OpR X (compareOp .In) (rInU X.K false) := by
  intro pins s σ H x y v u Q I rx ry h
  obtain ⟨d, ds, hd, he, sd, se, q⟩ := h
  obtain ⟨as, r1⟩ := Dp.reads I d x v hd rx
  rcases he with he | he
  · obtain ⟨bs, r2⟩ := Dp.reads I (.list ds) y u he ry
    exact SeqAt.in_list_reads r2 r1 (SeqAt.canLay_of_shaped se) (SeqAt.canLay_of_shaped sd) (room_in_shaped sd hu) ⟨.bl _, H, I, rfl, q⟩
  · obtain ⟨bs, r2⟩ := Dp.reads I (.tuple ds) y u he ry
    exact SeqAt.in_tuple_reads r2 r1 (SeqAt.canLay_of_shaped se) (SeqAt.canLay_of_shaped sd) (room_in_shaped sd hu) ⟨.bl _, H, I, rfl, q⟩
theorem op_notInU (hu : X.A.units + 65 < cLine) : OpR X (compareOp .NotIn) (rInU X.K true) := by
  intro pins s σ H x y v u Q I rx ry h
  obtain ⟨d, ds, hd, he, sd, se, q⟩ := h
  obtain ⟨as, r1⟩ := Dp.reads I d x v hd rx
  rcases he with he | he
  · obtain ⟨bs, r2⟩ := Dp.reads I (.list ds) y u he ry
    exact SeqAt.notIn_list_reads r2 r1 (SeqAt.canLay_of_shaped se) (SeqAt.canLay_of_shaped sd) (room_in_shaped sd hu) ⟨.bl _, H, I, rfl, q⟩
  · obtain ⟨bs, r2⟩ := Dp.reads I (.tuple ds) y u he ry
    exact SeqAt.notIn_tuple_reads r2 r1 (SeqAt.canLay_of_shaped se) (SeqAt.canLay_of_shaped sd) (room_in_shaped sd hu) ⟨.bl _, H, I, rfl, q⟩
variable {K : PySem.W.Frag} (hK : X.K = K)
include hK
theorem k_inU (hu : X.A.units + 65 < cLine) : OpR X (compareOp .In) (rInU K false) := hK ▸ op_inU hu
theorem k_notInU (hu : X.A.units + 65 < cLine) : OpR X (compareOp .NotIn) (rInU K true) := hK ▸ op_notInU hu
end
section
variable {c : Ct} {Γ : List (Option Rs)} {ta tb : TE} {ka kb : Kd} {d : PyData} {ds : List PyData} {r : List Int} {P : List (List Int)} {neg : Bool}
theorem e_inUL (ha : Ev c ta Γ ka d) (hb : Ev c tb Γ kb (.list ds)) (sd : SeqAt.shaped d = true) (sl : SeqAt.shaped (.tuple ds) = true) : Ev c (tOp (rInU c.K neg) ta tb) Γ .v (.bool (if neg then !(ds.any fun z => PyData.eqv z d) else ds.any fun z => PyData.eqv z d)) :=
  d_bin ha hb fun H O v u Q bv bu q => ⟨d, ds, bv.dp, .inl bu.dp, sd, sl, q _ H Rr.rf (.bl _)⟩
theorem e_inUT (ha : Ev c ta Γ ka d) (hb : Ev c tb Γ kb (.tuple ds)) (sd : SeqAt.shaped d = true) (sl : SeqAt.shaped (.tuple ds) = true) : Ev c (tOp (rInU c.K neg) ta tb) Γ .v (.bool (if neg then !(ds.any fun z => PyData.eqv z d) else ds.any fun z => PyData.eqv z d)) :=
  d_bin ha hb fun H O v u Q bv bu q => ⟨d, ds, bv.dp, .inr bu.dp, sd, sl, q _ H Rr.rf (.bl _)⟩
theorem shapedTR (l : List (List Int)) : SeqAt.shaped (.tuple (l.map tupD)) = true := (sh_tup (n := 1) (sh_rows l)).ok (by decide)
theorem e_inRT (ha : Ev c ta Γ ka (tupD r)) (hb : Ev c tb Γ kb (.tuple (P.map tupD))) : Ev c (tOp (rInU c.K false) ta tb) Γ .v (.bool (decide (r ∈ P))) := (e_inUT ha hb (shapedT r) (shapedTR P)).to (by rw [if_neg (by decide), anyRows])
theorem e_inRL (ha : Ev c ta Γ ka (tupD r)) (hb : Ev c tb Γ kb (.list (P.map tupD))) : Ev c (tOp (rInU c.K false) ta tb) Γ .v (.bool (decide (r ∈ P))) := (e_inUL ha hb (shapedT r) (shapedTR P)).to (by rw [if_neg (by decide), anyRows])
theorem e_ninRT (ha : Ev c ta Γ ka (tupD r)) (hb : Ev c tb Γ kb (.tuple (P.map tupD))) : Ev c (tOp (rInU c.K true) ta tb) Γ .v (.bool (!decide (r ∈ P))) := (e_inUT ha hb (shapedT r) (shapedTR P)).to (by rw [if_pos rfl, anyRows])
theorem e_ninRL (ha : Ev c ta Γ ka (tupD r)) (hb : Ev c tb Γ kb (.list (P.map tupD))) : Ev c (tOp (rInU c.K true) ta tb) Γ .v (.bool (!decide (r ∈ P))) := (e_inUL ha hb (shapedT r) (shapedTR P)).to (by rw [if_pos rfl, anyRows])
end
section
variable {c : Ct} {Γ : List (Option Rs)} {tr : TA} {kv : Bool} {n m lo : Nat} {a : Im}
theorem i_rngN (h : EvA c tr Γ kv [.int (n : Int)]) (hn : n ≤ 1000000) : EvI c (iRng1 tr) Γ true ((List.range n).map fun (i : Nat) => Im.d (.int (i : Int))) := by
  have := i_rng1 h (by omega) (by omega)
  rw [Int.toNat_natCast] at this
  unfold upI at this
  rw [List.map_map] at this
  refine (congrArg (EvI c (iRng1 tr) Γ true) (List.map_congr_left fun i _ => ?_)).mp this
  show Im.d (.int (0 + (i : Int))) = _
  rw [Int.zero_add]
theorem rngN_at (h : ((List.range n).map fun (i : Nat) => Im.d (.int (i : Int)))[m]? = some a) : m < n ∧ a = .d (.int (m : Int)) := by
  rw [List.getElem?_map] at h
  cases q : (List.range n)[m]? with
  | none => rw [q] at h; cases h
  | some k =>
    rw [q] at h
    have hm := (List.getElem?_eq_some_iff.mp q).1
    rw [List.length_range] at hm
    rw [List.getElem?_range hm] at q
    cases Option.some.inj q
    exact ⟨hm, (Option.some.inj h).symm⟩
theorem i_rngN2 (h : EvA c tr Γ kv [.int (lo : Int), .int (n : Int)]) (hn : n ≤ 1000000) (hl : lo ≤ 1000000) : EvI c (iRng2 tr) Γ true ((List.range (n - lo)).map fun (i : Nat) => Im.d (.int ((lo + i : Nat) : Int))) := by
  have := i_rng2 h (by omega) (by omega) (by omega) (by omega)
  rw [show ((n : Int) - (lo : Int)).toNat = n - lo by omega] at this
  unfold upI at this
  rw [List.map_map] at this
  refine (congrArg (EvI c (iRng2 tr) Γ true) (List.map_congr_left fun i _ => ?_)).mp this
  show Im.d (.int ((lo : Int) + (i : Int))) = _
  rw [Int.natCast_add]
theorem rngN2_at (h : ((List.range n).map fun (i : Nat) => Im.d (.int ((lo + i : Nat) : Int)))[m]? = some a) : m < n ∧ a = .d (.int ((lo + m : Nat) : Int)) := by
  rw [List.getElem?_map] at h
  cases q : (List.range n)[m]? with
  | none => rw [q] at h; cases h
  | some k =>
    rw [q] at h
    have hm := (List.getElem?_eq_some_iff.mp q).1
    rw [List.length_range] at hm
    rw [List.getElem?_range hm] at q
    cases Option.some.inj q
    exact ⟨hm, (Option.some.inj h).symm⟩
end
theorem at_intsL {ns : List Int} (h : 1 ≤ ns.length) : atI (ns.map PyData.int) (-1) = some (.int (ns.getD (ns.length - 1) 0)) := by
  have ne : ns ≠ [] := fun w => by rw [w] at h; simp at h
  have e : ns = ns.dropLast ++ [ns.getLast ne] := (List.dropLast_concat_getLast ne).symm
  have e2 : ns.getD (ns.length - 1) 0 = ns.getLast ne := by
    rw [List.getD_eq_getElem?_getD, List.getLast_eq_getElem, List.getElem?_eq_getElem (by omega)]
    rfl
  rw [e2]
  have := at_lastI (ns.dropLast.map PyData.int) (.int (ns.getLast ne))
  rw [show ns.dropLast.map PyData.int ++ [.int (ns.getLast ne)] = (ns.dropLast ++ [ns.getLast ne]).map .int by simp, ← e] at this
  exact this
theorem erase_mapR {α β : Type} (f : α → β) : ∀ (l : List α) (k : Nat), (l.map f).eraseIdx k = (l.eraseIdx k).map f
  | [], _ => rfl
  | _ :: _, 0 => rfl
  | _ :: l, k + 1 => by simp only [List.map_cons, List.eraseIdx_cons_succ, erase_mapR f l k]
theorem erase_permR {α : Type} : ∀ (l : List α) (k : Nat) (h : k < l.length), (l[k] :: l.eraseIdx k).Perm l
  | [], _, h => absurd h (by simp)
  | _ :: _, 0, _ => .refl _
  | a :: l, k + 1, h => (List.Perm.swap a _ _).trans ((erase_permR l k (by simpa using h)).cons a)
/-! ### plans -/
/-- pairs of places below m -/
structure Prs (P : List (List Int)) (m : Int) : Prop where
  two : ∀ r ∈ P, ∃ i j : Int, r = [i, j] ∧ 0 ≤ i ∧ i < j ∧ j < m
  nd : P.Nodup
  len : P.length ≤ 15
def joinB (P : List (List Int)) (i j : Int) : Bool := decide ([if j < i then j else i, if j > i then j else i] ∈ P)
def cycB (P : List (List Int)) (r : List Int) : Bool := (List.range r.length).all fun k => joinB P (r.getD (if k = 0 then r.length - 1 else k - 1) 0) (r.getD k 0)
def sp_is_pairP (K : PySem.W.Frag) : Sp := spD K fun ds k d => ∃ i j m : Int, ds = [tupD [i, j], .int m] ∧ 0 ≤ i ∧ i < j ∧ j < m ∧ k = .v ∧ d = .bool true
def sp_are_pairs (K : PySem.W.Frag) : Sp := spD K fun ds k d => ∃ (P : List (List Int)) (m : Int), ds = [.tuple (P.map tupD), .int m] ∧ Prs P m ∧ k = .v ∧ d = .bool true
def sp_are_allocationsM (K : PySem.W.Frag) : Sp := spD K fun ds k d => ∃ A v b m, ds = [.tuple (A.map tupD), .int m] ∧ Ser A v b ∧ (A.length : Int) ≤ m ∧ m ≤ 100 ∧ k = .v ∧ d = .bool true
def sp_check_plan (K : PySem.W.Frag) : Sp := spD K fun ds k d => ∃ A P v b, ds = [.tuple (A.map tupD), .tuple (P.map tupD)] ∧ Ser A v b ∧ A.length ≤ 6 ∧ Prs P A.length ∧ k = .v ∧ d = .none
def sp_are_joined (K : PySem.W.Frag) : Sp := spD K fun ds k d => ∃ (P : List (List Int)) (i j : Int), ds = [.tuple (P.map tupD), .int i, .int j] ∧ k = .v ∧ d = .bool (joinB P i j)
def sp_is_cycle (K : PySem.W.Frag) : Sp := spD K fun ds k d => ∃ (P : List (List Int)) (r : List Int), ds = [.tuple (P.map tupD), tupD r] ∧ r.length ≤ 1000 ∧ k = .v ∧ d = .bool (cycB P r)
/-- the pairs whose first place is below n -/
def prF (m n : Nat) : List (List Int) := (List.range n).flatMap fun i => (List.range (m - (i + 1))).map fun d => [(i : Int), ((i + 1 + d : Nat) : Int)]
/-- all pairs below n -/
def prL (n : Nat) : List (List Int) := prF n n
theorem prF_succ {m n : Nat} : prF m (n + 1) = prF m n ++ (List.range (m - (n + 1))).map fun d => [(n : Int), ((n + 1 + d : Nat) : Int)] := by
  unfold prF
  rw [List.range_succ, List.flatMap_append, List.flatMap_singleton]
theorem prF_len : ∀ {m n : Nat}, (prF m n).length ≤ n * m
  | m, 0 => by simp [prF]
  | m, n + 1 => by
    have := prF_len (m := m) (n := n)
    rw [prF_succ, List.length_append, List.length_map, List.length_range, Nat.succ_mul]
    omega
theorem mem_prL {n : Nat} {r : List Int} : r ∈ prL n ↔ ∃ i j : Nat, r = [(i : Int), (j : Int)] ∧ i < j ∧ j < n := by
  unfold prL prF
  simp only [List.mem_flatMap, List.mem_map, List.mem_range]
  constructor
  · rintro ⟨i, hi, d, hd, rfl⟩
    exact ⟨i, i + 1 + d, rfl, by omega, by omega⟩
  · rintro ⟨i, j, rfl, h1, h2⟩
    exact ⟨i, by omega, j - (i + 1), by omega, by rw [show i + 1 + (j - (i + 1)) = j by omega]⟩
theorem prL_nd : ∀ n < 21, (prL n).Nodup := by decide +kernel
def sp__law_all_pairs (K : PySem.W.Frag) : Sp := spD K fun ds k d => ∃ m : Nat, ds = [.int (m : Int)] ∧ m ≤ 20 ∧ k = .o ∧ d = .list ((prL m).map tupD)
def sp__law_pairs (K : PySem.W.Frag) : Sp := spS K fun ds k Q => ∃ m n : Nat, ds = [.int (m : Int), .int (n : Int)] ∧ m ≤ 20 ∧ n ≤ 15 ∧ k = .v ∧ Q = fun d => ∃ P, d = .tuple (P.map tupD) ∧ Prs P m
/-! bad triples -/
def castL (ks : List Nat) : List Int := ks.map fun (i : Nat) => (i : Int)
theorem plc_cast (ks : List Nat) : plcD ks = tupD (castL ks) := rfl
def badB (P A : List (List Int)) (r : List Int) : Bool := cycB P r && decide (0 < exI (A.getD (r.getD 0 0).toNat []) (A.getD (r.getD 1 0).toNat []) (A.getD (r.getD 2 0).toNat []))
def trpL (n : Nat) : List (List Int) := (cmbs n 3).map castL
def badL (P A : List (List Int)) : List (List Int) := (trpL A.length).filter (badB P A)
theorem cmb3 : ∀ n < 7, ∀ ks ∈ cmbs n 3, ks = [ks.getD 0 0, ks.getD 1 0, ks.getD 2 0] ∧ ks.getD 0 0 < ks.getD 1 0 ∧ ks.getD 1 0 < ks.getD 2 0 ∧ ks.getD 2 0 < n := by decide +kernel
theorem mem_cmb3 {n : Nat} (hn : n ≤ 6) {ks : List Nat} (h : ks ∈ cmbs n 3) : ∃ i j k, ks = [i, j, k] ∧ i < j ∧ j < k ∧ k < n := by
  obtain ⟨h1, h2, h3, h4⟩ := cmb3 n (by omega) ks h
  exact ⟨_, _, _, h1, h2, h3, h4⟩
theorem cmb3_len : ∀ n < 7, (cmbs n 3).length ≤ 20 := by decide +kernel
/-- by the law: behind each pair the third one -/
def trpF (m : Nat) (l : List (List Int)) : List (List Int) := l.flatMap fun r => (List.range (m - ((r.getD 1 0).toNat + 1))).map fun d => [r.getD 0 0, r.getD 1 0, (((r.getD 1 0).toNat + 1 + d : Nat) : Int)]
theorem trp_is : ∀ n < 7, trpF n (prL n) = trpL n := by decide +kernel
def sp_bad_triples (K : PySem.W.Frag) : Sp := spD K fun ds k d => ∃ A P v b, ds = [.tuple (A.map tupD), .tuple (P.map tupD)] ∧ Ser A v b ∧ A.length ≤ 6 ∧ Prs P A.length ∧ k = .o ∧ d = .list ((badL P A).map tupD)
theorem bad_len {P A : List (List Int)} (h : A.length ≤ 6) : (badL P A).length ≤ 20 := by
  have := cmb3_len A.length (by omega)
  have := List.length_filter_le (badB P A) (trpL A.length)
  unfold badL
  simp [trpL] at this ⊢
  omega
/-- a triple is bad: its pairs are there, its medians too many -/
def dueB (P A : List (List Int)) (b : Int) (r : List Int) : Bool := decide ([r.getD 0 0, r.getD 1 0] ∈ P) && (decide ([r.getD 0 0, r.getD 2 0] ∈ P) && (decide ([r.getD 1 0, r.getD 2 0] ∈ P) && decide (b < (medI (A.getD (r.getD 0 0).toNat []) (A.getD (r.getD 1 0).toNat []) (A.getD (r.getD 2 0).toNat [])).sum)))
theorem bad_due {P A : List (List Int)} {v b : Int} (hA : Ser A v b) {i j k : Nat} (h1 : i < j) (h2 : j < k) (h3 : k < A.length) : badB P A [(i : Int), (j : Int), (k : Int)] = dueB P A b [(i : Int), (j : Int), (k : Int)] := by
  have s := (hA.at (i := i) (by omega)).sum
  have c : cycB P [(i : Int), (j : Int), (k : Int)] = (joinB P k i && (joinB P i j && (joinB P j k && true))) := rfl
  unfold badB dueB
  rw [c]
  unfold joinB
  simp only [List.getD_cons_zero, List.getD_cons_succ, Int.toNat_natCast, Bool.and_true]
  rw [if_pos (show (i : Int) < k by omega), if_neg (show ¬ (i : Int) > k by omega), if_neg (show ¬ (j : Int) < i by omega), if_pos (show (j : Int) > i by omega), if_neg (show ¬ (k : Int) < j by omega), if_pos (show (k : Int) > j by omega)]
  have e2 : decide (0 < exI (A.getD i []) (A.getD j []) (A.getD k [])) = decide (b < (medI (A.getD i []) (A.getD j []) (A.getD k [])).sum) := by
    rw [decide_eq_decide]
    unfold exI suI
    split <;> omega
  rw [e2]
  cases decide ([(i : Int), (k : Int)] ∈ P) <;> cases decide ([(i : Int), (j : Int)] ∈ P) <;> cases decide ([(j : Int), (k : Int)] ∈ P) <;> simp
theorem bad_is {P A : List (List Int)} {v b : Int} (hA : Ser A v b) (h6 : A.length ≤ 6) : (trpF A.length (prL A.length)).filter (dueB P A b) = badL P A := by
  unfold badL
  rw [trp_is _ (by omega)]
  apply List.filter_congr
  intro r hr
  obtain ⟨ks, hk, rfl⟩ := List.mem_map.mp hr
  obtain ⟨i, j, k, rfl, h1, h2, h3⟩ := mem_cmb3 h6 hk
  exact (bad_due hA h1 h2 h3).symm
end Lm

/-! rules: the mathematics -/
namespace Lm
open PySem PySem.Spec PyProof.Rows L2
abbrev Pr := List Int × List Int
abbrev rlD (p : Pr) : PyData := .tuple [tupD p.1, tupD p.2]
abbrev lstD (r : List Int) : PyData := .list (r.map .int)
/-- an allocation and an assignment of it -/
structure OkP (p : Pr) (v b : Int) : Prop where
  alc : Alc p.1 v b
  len : (p.2.length : Int) = b
  rng : ∀ x ∈ p.2, 0 ≤ x ∧ x < v
  cnt : countsI p.2 v = p.1
structure Rul (R : List Pr) (v b : Int) : Prop where
  v1 : 1 ≤ v
  v5 : v ≤ 5
  b0 : 0 ≤ b
  b20 : b ≤ 20
  len : R.length ≤ 20
  ok : ∀ p ∈ R, OkP p v b
  nd : (R.map (·.1)).Nodup
theorem OkP.asg {p : Pr} {v b : Int} (h : OkP p v b) (hb : b ≤ 20) : Asg p.2 v := ⟨by have := h.len; omega, h.rng⟩
def gR (R : List Pr) (i : Nat) : Pr := R.getD i ([], [])
theorem gR_mem {R : List Pr} {i : Nat} (h : i < R.length) : gR R i ∈ R := by
  unfold gR
  rw [List.getD_eq_getElem?_getD, List.getElem?_eq_getElem h]
  exact List.getElem_mem h
/-- a bucket leaves needlessly -/
def leftB (p q : Pr) (i : Nat) : Bool := !decide (p.2.getD i 0 = 0) && (!decide (q.2.getD i 0 = p.2.getD i 0) && decide (p.1.getD (p.2.getD i 0).toNat 0 ≤ q.1.getD (p.2.getD i 0).toNat 0))
/-! the first of three places -/
theorem find_flat {α : Type} {p : α → Bool} {g : Nat → List α} {a : α} : ∀ {n i : Nat}, i < n → (∀ i' < i, (g i').find? p = none) → (g i).find? p = some a → ((List.range n).flatMap g).find? p = some a := by
  intro n i hi h1 h2
  obtain ⟨m, rfl⟩ : ∃ m, n = i + 1 + m := ⟨n - (i + 1), by omega⟩
  have e0 : ((List.range i).flatMap g).find? p = none := by
    rw [List.find?_eq_none]
    intro x hx
    obtain ⟨i', hi', hx'⟩ := List.mem_flatMap.mp hx
    exact List.find?_eq_none.mp (h1 i' (List.mem_range.mp hi')) x hx'
  rw [List.range_add, List.range_succ, List.flatMap_append, List.flatMap_append, List.find?_append, List.find?_append, e0, List.flatMap_singleton, h2]
  rfl
theorem find_flat0 {α : Type} {p : α → Bool} {g : Nat → List α} {n : Nat} (h : ∀ i < n, (g i).find? p = none) : ((List.range n).flatMap g).find? p = none := by
  rw [List.find?_eq_none]
  intro x hx
  obtain ⟨i', hi', hx'⟩ := List.mem_flatMap.mp hx
  exact List.find?_eq_none.mp (h i' (List.mem_range.mp hi')) x hx'
theorem find_map {α : Type} {p : α → Bool} {f : Nat → α} {n i : Nat} (hi : i < n) (h1 : ∀ i' < i, p (f i') = false) (h2 : p (f i) = true) : ((List.range n).map f).find? p = some (f i) := by
  have e : (List.range n).map f = (List.range n).flatMap fun i => [f i] := List.map_eq_flatMap
  rw [e]
  exact find_flat hi (fun i' hi' => by simp [h1 i' hi']) (by simp [h2])
theorem find_map0 {α : Type} {p : α → Bool} {f : Nat → α} {n : Nat} (h : ∀ i < n, p (f i) = false) : ((List.range n).map f).find? p = none := by
  rw [List.find?_eq_none]
  intro x hx
  obtain ⟨i, hi, rfl⟩ := List.mem_map.mp hx
  rw [h i (List.mem_range.mp hi)]
  decide
def triN (n b : Nat) : List (Nat × Nat × Nat) := (List.range n).flatMap fun i => (List.range n).flatMap fun j => (List.range b).map fun k => (i, j, k)
def lftP (R : List Pr) (t : Nat × Nat × Nat) : Bool := leftB (gR R t.1) (gR R t.2.1) t.2.2
def leftF (R : List Pr) (b : Nat) : PyData := match (triN R.length b).find? (lftP R) with
  | none => .none
  | some t => tupD [(t.1 : Int), (t.2.1 : Int), (t.2.2 : Int)]
theorem left_here {R : List Pr} {b i j k : Nat} (hi : i < R.length) (hj : j < R.length) (hk : k < b)
    (h1 : ∀ i' < i, ∀ j' < R.length, ∀ k' < b, leftB (gR R i') (gR R j') k' = false) (h2 : ∀ j' < j, ∀ k' < b, leftB (gR R i) (gR R j') k' = false) (h3 : ∀ k' < k, leftB (gR R i) (gR R j) k' = false)
    (h : leftB (gR R i) (gR R j) k = true) : leftF R b = tupD [(i : Int), (j : Int), (k : Int)] := by
  have e : (triN R.length b).find? (lftP R) = some (i, j, k) := by
    unfold triN
    exact find_flat hi (fun i' hi' => find_flat0 fun j' hj' => find_map0 fun k' hk' => h1 i' hi' j' hj' k' hk') (find_flat hj (fun j' hj' => find_map0 fun k' hk' => h2 j' hj' k' hk') (find_map (f := fun k => (i, j, k)) hk h3 h))
  unfold leftF
  rw [e]
theorem left_none {R : List Pr} {b : Nat} : leftF R b = .none ↔ ∀ i < R.length, ∀ j < R.length, ∀ k < b, leftB (gR R i) (gR R j) k = false := by
  unfold leftF
  constructor
  · intro h i hi j hj k hk
    cases q : (triN R.length b).find? (lftP R) with
    | some t => rw [q] at h; cases h
    | none =>
      have m : (i, j, k) ∈ triN R.length b := by
        unfold triN
        exact List.mem_flatMap.mpr ⟨i, List.mem_range.mpr hi, List.mem_flatMap.mpr ⟨j, List.mem_range.mpr hj, List.mem_map.mpr ⟨k, List.mem_range.mpr hk, rfl⟩⟩⟩
      have := List.find?_eq_none.mp q _ m
      simpa [lftP] using this
  · intro h
    have : (triN R.length b).find? (lftP R) = none := by
      unfold triN
      exact find_flat0 fun i hi => find_flat0 fun j hj => find_map0 fun k hk => h i hi j hj k hk
    rw [this]
theorem flat_left {R : List Pr} {b : Nat} : flatD (leftF R b) = true := by
  unfold leftF
  split
  · rfl
  · exact flatT _
/-! lists give the variants their buckets -/
def putAll (x : Int) : List Int → List Int → Option (List Int)
  | r, [] => some r
  | r, y :: ys => if r.getD y.toNat 0 = 0 then putAll x (r.set y.toNat x) ys else none
theorem putAll_app {x : Int} : ∀ {as bs r : List Int}, putAll x r (as ++ bs) = (putAll x r as).bind fun r' => putAll x r' bs
  | [], _, _ => rfl
  | a :: as, bs, r => by
    show (if r.getD a.toNat 0 = 0 then putAll x (r.set a.toNat x) (as ++ bs) else none) = (if r.getD a.toNat 0 = 0 then putAll x (r.set a.toNat x) as else none).bind _
    split
    · exact putAll_app
    · rfl
theorem getD_setI {r : List Int} {i j : Nat} {x : Int} (hi : i < r.length) : (r.set i x).getD j 0 = if i = j then x else r.getD j 0 := by
  simp only [List.getD_eq_getElem?_getD, List.getElem?_set]
  split
  · rename_i h
    subst h
    simp [hi]
  · rfl
theorem putAll_ok {x : Int} {b : Nat} (hx : x ≠ 0) : ∀ {ys r r' : List Int}, (∀ y ∈ ys, 0 ≤ y ∧ y < (b : Int)) → r.length = b → putAll x r ys = some r' →
    r'.length = b ∧ (∀ i < b, (i : Int) ∈ ys → r.getD i 0 = 0 ∧ r'.getD i 0 = x) ∧ (∀ i < b, (i : Int) ∉ ys → r'.getD i 0 = r.getD i 0)
  | [], r, r', _, hr, h => by
    have e : r = r' := Option.some.inj h
    subst e
    exact ⟨hr, fun i _ h => absurd h (by simp), fun i _ _ => rfl⟩
  | y :: ys, r, r', hy, hr, h => by
    have hy0 := hy y (by simp)
    have h' : (if r.getD y.toNat 0 = 0 then putAll x (r.set y.toNat x) ys else none) = some r' := h
    split at h'
    · rename_i q
      have yb : y.toNat < b := by omega
      have yl : y.toNat < r.length := by omega
      obtain ⟨a1, a2, a3⟩ := putAll_ok hx (fun z hz => hy z (by simp [hz])) (by simpa using hr) h'
      have s0 : ∀ i, (r.set y.toNat x).getD i 0 = if y.toNat = i then x else r.getD i 0 := fun i => getD_setI yl
      have ny : ¬ ((y.toNat : Nat) : Int) ∈ ys := fun m => by
        have := (a2 y.toNat yb m).1
        rw [s0, if_pos rfl] at this
        exact hx this
      refine ⟨a1, fun i hi m => ?_, fun i hi m => ?_⟩
      · by_cases e : i = y.toNat
        · subst e
          exact ⟨q, by rw [a3 _ hi ny, s0, if_pos rfl]⟩
        · have m' : (i : Int) ∈ ys := by
            rcases List.mem_cons.mp m with w | w
            · omega
            · exact w
          have := a2 i hi m'
          rw [s0, if_neg (fun w => e w.symm)] at this
          exact this
      · have e : ¬ y.toNat = i := fun w => m (by rw [← w, Int.toNat_of_nonneg hy0.1]; simp)
        rw [a3 i hi (fun w => m (by simp [w])), s0, if_neg e]
    · cases h'
/-- bucket y is one of those that list i gives -/
def hitI (Ls : List (List Int)) (as : List Int) (y i : Nat) : Prop := (y : Int) ∈ (Ls.getD i []).take (as.getD (i + 1) 0).toNat
def byN (Ls : List (List Int)) (as r0 : List Int) : Nat → Option (List Int)
  | 0 => some r0
  | n + 1 => (byN Ls as r0 n).bind fun r => putAll ((n : Int) + 1) r ((Ls.getD n []).take (as.getD (n + 1) 0).toNat)
def byL (Ls : List (List Int)) (as : List Int) (b : Nat) : Option (List Int) := byN Ls as (List.replicate b 0) Ls.length
theorem byN_none {Ls : List (List Int)} {as r0 : List Int} {n : Nat} (h : byN Ls as r0 n = none) : ∀ m, byN Ls as r0 (n + m) = none
  | 0 => h
  | m + 1 => by
    show (byN Ls as r0 (n + m)).bind _ = none
    rw [byN_none h m]
    rfl
theorem byL_none {Ls : List (List Int)} {as : List Int} {b n : Nat} (hn : n ≤ Ls.length) (h : byN Ls as (List.replicate b 0) n = none) : byL Ls as b = none := by
  have := byN_none h (Ls.length - n)
  rw [show n + (Ls.length - n) = Ls.length by omega] at this
  exact this
/-- one list for each variant but the control -/
structure Lts (Ls : List (List Int)) (v b : Int) : Prop where
  len : (Ls.length : Int) = v - 1
  ord : ∀ l ∈ Ls, IsOrd l b
theorem gL_mem {Ls : List (List Int)} {i : Nat} (h : i < Ls.length) : Ls.getD i [] ∈ Ls := by
  rw [List.getD_eq_getElem?_getD, List.getElem?_eq_getElem h]
  exact List.getElem_mem h
theorem byN_ok {Ls : List (List Int)} {as : List Int} {b : Nat} (hL : ∀ l ∈ Ls, ∀ y ∈ l, 0 ≤ y ∧ y < (b : Int)) : ∀ {n : Nat} {r : List Int}, n ≤ Ls.length → byN Ls as (List.replicate b 0) n = some r →
    r.length = b ∧ ∀ y < b, (r.getD y 0 = 0 ∧ ∀ i < n, ¬ hitI Ls as y i) ∨ ∃ i < n, r.getD y 0 = (i : Int) + 1 ∧ hitI Ls as y i ∧ ∀ j < n, hitI Ls as y j → j = i
  | 0, r, _, h => by
    have e : List.replicate b 0 = r := Option.some.inj h
    subst e
    refine ⟨by simp, fun y hy => .inl ⟨?_, fun i hi => absurd hi (by omega)⟩⟩
    simp [List.getD_eq_getElem?_getD, List.getElem?_replicate, hy]
  | n + 1, r, hn, h => by
    have h' : (byN Ls as (List.replicate b 0) n).bind (fun r => putAll ((n : Int) + 1) r ((Ls.getD n []).take (as.getD (n + 1) 0).toNat)) = some r := h
    cases q : byN Ls as (List.replicate b 0) n with
    | none => rw [q] at h'; cases h'
    | some s =>
      rw [q] at h'
      obtain ⟨a1, a2⟩ := byN_ok hL (by omega) q
      have mem := gL_mem (Ls := Ls) (i := n) (by omega)
      obtain ⟨c1, c2, c3⟩ := putAll_ok (by omega) (fun y hy => hL _ mem y (List.mem_of_mem_take hy)) a1 h'
      refine ⟨c1, fun y hy => ?_⟩
      by_cases m : hitI Ls as y n
      · obtain ⟨z, e⟩ := c2 y hy m
        refine .inr ⟨n, by omega, e, m, fun j hj hh => ?_⟩
        rcases a2 y hy with ⟨_, w⟩ | ⟨i, hi, w, _⟩
        · by_cases e : j = n
          · exact e
          · exact absurd hh (w j (by omega))
        · rw [z] at w; omega
      · have e := c3 y hy m
        rcases a2 y hy with ⟨z, w⟩ | ⟨i, hi, w, u, t⟩
        · refine .inl ⟨by rw [e, z], fun i hi => ?_⟩
          by_cases q : i = n
          · rw [q]; exact m
          · exact w i (by omega)
        · refine .inr ⟨i, by omega, by rw [e, w], u, fun j hj hh => ?_⟩
          by_cases q : j = n
          · rw [q] at hh; exact absurd hh m
          · exact t j (by omega) hh
theorem len_eq {α : Type} [DecidableEq α] {as bs : List α} (ha : as.Nodup) (hb : bs.Nodup) (h : ∀ k, k ∈ as ↔ k ∈ bs) : as.length = bs.length :=
  Nat.le_antisymm (len_sub ha fun k q => (h k).mp q) (len_sub hb fun k q => (h k).mpr q)
/-- how often a number stands in a list: at so many places -/
theorem count_places (r : List Int) (x : Int) : r.count x = ((List.range r.length).filter fun i => decide (r.getD i 0 = x)).length := by
  induction r with
  | nil => rfl
  | cons a r ih =>
    rw [List.length_cons, List.range_succ_eq_map, List.filter_cons]
    have e : ((List.range r.length).map Nat.succ).filter (fun i => decide ((a :: r).getD i 0 = x)) = ((List.range r.length).filter fun i => decide (r.getD i 0 = x)).map Nat.succ := by
      rw [List.filter_map]
      congr 1
    rw [List.count_cons, e, ih]
    by_cases h : a = x
    · subst h; simp
    · simp [h]
theorem byL_pr {Ls : List (List Int)} {as f : List Int} {v b : Int} (hv : 1 ≤ v) (ha : Alc as v b) (hL : Lts Ls v b) (h : byL Ls as b.toNat = some f) : OkP (as, f) v b := by
  have b0 : 0 ≤ b := by rw [← ha.sum]; exact sum_nn ha.nn
  have ll := hL.len
  have al := ha.len
  have rg : ∀ l ∈ Ls, ∀ y ∈ l, 0 ≤ y ∧ y < ((b.toNat : Nat) : Int) := fun l hl y hy => by have := (hL.ord l hl).rng y hy; omega
  obtain ⟨h1, h2⟩ := byN_ok rg (Nat.le_refl _) h
  have rng : ∀ x ∈ f, 0 ≤ x ∧ x < v := fun x hx => by
    obtain ⟨y, hy⟩ := List.getElem?_of_mem hx
    have yl : y < f.length := (List.getElem?_eq_some_iff.mp hy).1
    have e : f.getD y 0 = x := by rw [List.getD_eq_getElem?_getD, hy]; rfl
    rcases h2 y (by omega) with ⟨z, _⟩ | ⟨i, hi, z, _⟩
    · rw [e] at z; omega
    · rw [e] at z; omega
  have ac := alc_counts rng (by omega)
  have fl : (f.length : Int) = b := by omega
  have cnt : ∀ i < Ls.length, (f.count ((i : Int) + 1) : Int) = as.getD (i + 1) 0 := fun i hi => by
    have ai : 0 ≤ as.getD (i + 1) 0 := ha.nn _ (gd_mem (by omega))
    have ab : as.getD (i + 1) 0 ≤ b := by rw [← ha.sum]; exact le_sum ha.nn _ (gd_mem (by omega))
    have ol := hL.ord _ (gL_mem hi)
    have tl : ((Ls.getD i []).take (as.getD (i + 1) 0).toNat).length = (as.getD (i + 1) 0).toNat := by
      rw [List.length_take]
      have := ol.len
      omega
    rw [count_places, h1]
    have key : (((List.range b.toNat).filter fun y => decide (f.getD y 0 = (i : Int) + 1)).map fun (y : Nat) => (y : Int)).length = ((Ls.getD i []).take (as.getD (i + 1) 0).toNat).length := by
      refine len_eq ?_ (List.Pairwise.sublist (List.take_sublist _ _) ol.nd) fun k => ?_
      · refine List.Pairwise.map _ (fun a b w e => w (by omega)) (List.Pairwise.filter _ List.nodup_range)
      · constructor
        · intro hk
          obtain ⟨y, hy, rfl⟩ := List.mem_map.mp hk
          obtain ⟨y1, y2⟩ := List.mem_filter.mp hy
          have y2 := of_decide_eq_true y2
          rcases h2 y (List.mem_range.mp y1) with ⟨z, _⟩ | ⟨j, hj, z, w, _⟩
          · omega
          · have : j = i := by omega
            rw [this] at w
            exact w
        · intro hk
          obtain ⟨k0, k1⟩ := ol.rng k (List.mem_of_mem_take hk)
          obtain ⟨y, rfl⟩ := Int.eq_ofNat_of_zero_le k0
          refine List.mem_map.mpr ⟨y, List.mem_filter.mpr ⟨List.mem_range.mpr (by omega), decide_eq_true ?_⟩, rfl⟩
          rcases h2 y (by omega) with ⟨_, w⟩ | ⟨j, hj, z, w, u⟩
          · exact absurd hk (w i hi)
          · have := u i hi hk
            omega
    rw [List.length_map, tl] at key
    rw [key]
    omega
  refine ⟨ha, fl, rng, ?_⟩
  have cl : (countsI f v).length = as.length := by rw [countsI_len]; omega
  have rest : ∀ i, 1 ≤ i → (countsI f v).getD i 0 = as.getD i 0 := fun i hi => by
    by_cases q : (i : Int) < v
    · rw [countsI_get q]
      have := cnt (i - 1) (by omega)
      rw [show ((i - 1 : Nat) : Int) + 1 = (i : Int) by omega, show i - 1 + 1 = i by omega] at this
      exact this
    · rw [List.getD_eq_getElem?_getD, List.getD_eq_getElem?_getD, List.getElem?_eq_none (by omega), List.getElem?_eq_none (by omega)]
  have sums : (countsI f v).sum = as.sum := by rw [ac.sum, ha.sum]; exact fl
  cases hc : countsI f v with
  | nil => rw [hc] at cl; cases as with
    | nil => rfl
    | cons => simp at cl
  | cons x xs => cases has : as with
    | nil => rw [hc, has] at cl; simp at cl
    | cons y ys =>
      have tails : xs = ys := by
        apply List.ext_getElem
        · rw [hc, has] at cl; simpa using cl
        · intro i h1 h2
          have := rest (i + 1) (by omega)
          rw [hc, has] at this
          simpa [List.getD_eq_getElem?_getD, h1, h2] using this
      rw [hc, has, tails] at sums
      simp only [List.sum_cons] at sums
      rw [tails, show x = y by omega]
/-- what lists give is steady -/
theorem byL_steady {Ls : List (List Int)} {as f cs g : List Int} {v b : Int} (hL : Lts Ls v b) (h : byL Ls as b.toNat = some f) (h' : byL Ls cs b.toNat = some g) {y : Nat} (hy : y < b.toNat) : leftB (as, f) (cs, g) y = false := by
  have rg : ∀ l ∈ Ls, ∀ y ∈ l, 0 ≤ y ∧ y < ((b.toNat : Nat) : Int) := fun l hl y hy => by have := (hL.ord l hl).rng y hy; omega
  obtain ⟨_, h2⟩ := byN_ok rg (Nat.le_refl _) h
  obtain ⟨_, g2⟩ := byN_ok rg (Nat.le_refl _) h'
  show (!decide (f.getD y 0 = 0) && (!decide (g.getD y 0 = f.getD y 0) && decide (as.getD (f.getD y 0).toNat 0 ≤ cs.getD (f.getD y 0).toNat 0))) = false
  rcases h2 y hy with ⟨z, _⟩ | ⟨i, hi, z, w, _⟩
  · rw [z]; rfl
  · have e : (((i : Int) + 1).toNat) = i + 1 := by omega
    rw [z, e]
    by_cases le : as.getD (i + 1) 0 ≤ cs.getD (i + 1) 0
    · have m : hitI Ls cs y i := List.take_subset_take_left _ (by omega) w
      rcases g2 y hy with ⟨_, u⟩ | ⟨j, hj, u, _, t⟩
      · exact absurd m (u i hi)
      · have := t i hi m
        subst this
        rw [u, decide_eq_true rfl, Bool.not_true, Bool.false_and, Bool.and_false]
    · rw [decide_eq_false le, Bool.and_false, Bool.and_false]
end Lm

/-! drawn assignments of an allocation; drawn tests -/
namespace Lm
open PySem PySem.Spec PyProof.Rows L2
structure Drw (as : List Int) (lf acc : List Int) (n : Nat) : Prop where
  len : lf.length = as.length
  al : acc.length = n
  nn : ∀ x ∈ lf, 0 ≤ x
  rng : ∀ x ∈ acc, 0 ≤ x ∧ x < (as.length : Int)
  cnt : ∀ i < as.length, (acc.count (i : Int) : Int) + lf.getD i 0 = as.getD i 0
  sum : lf.sum + (n : Int) = as.sum
theorem Drw.start {as : List Int} (h : ∀ x ∈ as, 0 ≤ x) : Drw as as [] 0 := ⟨rfl, rfl, h, by simp, by simp, by simp⟩
theorem sum_setX : ∀ {l : List Int} {i : Nat} {x : Int}, i < l.length → (l.set i x).sum = l.sum - l.getD i 0 + x
  | [], _, _, h => by simp at h
  | a :: l, 0, x, _ => by simp only [List.set_cons_zero, List.sum_cons, List.getD_cons_zero]; omega
  | a :: l, i + 1, x, h => by
    have := sum_setX (l := l) (i := i) (x := x) (by simpa using h)
    simp only [List.set_cons_succ, List.sum_cons, List.getD_cons_succ]
    omega
theorem Drw.step {as lf acc : List Int} {n i : Nat} (h : Drw as lf acc n) (hi : i < as.length) (hp : 0 < lf.getD i 0) : Drw as (lf.set i (lf.getD i 0 - 1)) (acc ++ [(i : Int)]) (n + 1) := by
  have hl := h.len
  refine ⟨by simpa using hl, by simp [h.al], fun x hx => ?_, fun x hx => ?_, fun j hj => ?_, ?_⟩
  · rcases List.mem_or_eq_of_mem_set hx with w | w
    · exact h.nn x w
    · omega
  · rcases List.mem_append.mp hx with w | w
    · exact h.rng x w
    · rw [List.mem_singleton.mp w]; omega
  · have hc := h.cnt j hj
    rw [getD_setI (by omega), List.count_append]
    by_cases e : i = j
    · subst e
      have c1 : List.count (i : Int) [(i : Int)] = 1 := by simp
      rw [if_pos rfl, c1]
      omega
    · have c1 : List.count (j : Int) [(i : Int)] = 0 := List.count_eq_zero_of_not_mem (by simp; omega)
      rw [if_neg e, c1]
      omega
  · rw [sum_setX (by omega)]
    have := h.sum
    omega
theorem Drw.pos {as lf acc : List Int} {n : Nat} (h : Drw as lf acc n) (hn : (n : Int) < as.sum) : 0 < ((List.range as.length).filter fun i => decide (0 < lf.getD i 0)).length := by
  cases q : (List.range as.length).filter fun i => decide (0 < lf.getD i 0) with
  | cons => simp
  | nil =>
    exfalso
    have z : ∀ x ∈ lf, x = 0 := fun x hx => by
      obtain ⟨i, hi⟩ := List.getElem?_of_mem hx
      have il : i < lf.length := (List.getElem?_eq_some_iff.mp hi).1
      have e : lf.getD i 0 = x := by rw [List.getD_eq_getElem?_getD, hi]; rfl
      have m := List.filter_eq_nil_iff.mp q i (List.mem_range.mpr (by have := h.len; omega))
      have := h.nn x hx
      rw [e] at m
      simp at m
      omega
    have s : lf.sum = 0 := by
      clear q
      have : ∀ l : List Int, (∀ x ∈ l, x = 0) → l.sum = 0 := by
        intro l
        induction l with
        | nil => intro _; rfl
        | cons a l ih => intro w; rw [List.sum_cons, w a (by simp), ih fun x hx => w x (by simp [hx])]; rfl
      exact this lf z
    have := h.sum
    omega
theorem Drw.fin {as lf acc : List Int} {v b : Int} (ha : Alc as v b) (hv : 0 ≤ v) (h : Drw as lf acc b.toNat) (hb : 0 ≤ b) : OkP (as, acc) v b := by
  have al := ha.len
  have rg : ∀ x ∈ acc, 0 ≤ x ∧ x < v := fun x hx => by have := h.rng x hx; omega
  refine ⟨ha, by show (acc.length : Int) = b; rw [h.al]; omega, rg, ?_⟩
  have s0 : lf.sum = 0 := by have := h.sum; have := ha.sum; omega
  apply List.ext_getElem
  · rw [countsI_len]; show v.toNat = as.length; omega
  · intro i h1 h2
    have h2' : i < as.length := h2
    have e1 : (countsI acc v).getD i 0 = (acc.count (i : Int) : Int) := countsI_get (by omega)
    have e2 := h.cnt i h2'
    have z : lf.getD i 0 = 0 := by
      have m := gd_mem (l := lf) (j := i) (by have := h.len; omega)
      have := h.nn _ m
      have := le_sum h.nn _ m
      omega
    rw [List.getD_eq_getElem?_getD, List.getElem?_eq_getElem h1] at e1
    rw [z, List.getD_eq_getElem?_getD, List.getElem?_eq_getElem h2'] at e2
    simp at e1 e2
    show (countsI acc v)[i] = as[i]
    rw [e1]; exact e2
section
variable {c : Ct} {Γ : List (Option Rs)} {te ta tb : TE} {tt tu : TT} {k ka kb : Kd} {a : Bool} {P : Out → Prop} {n : Nat}
theorem tn_or (h : EvT c tt Γ a) (g : a = false → EvTN c tu Γ) : EvTN c (tOr tt tu) Γ := fun H0 O H σ e Q q => h H0 O H σ e _ fun H2 r => by
  cases a with
  | false => exact iteF (g rfl H0 O H2 σ (e.on r) _ fun b H3 r3 => q b H3 (r.tr r3))
  | true => exact iteT (q true H2 r)
theorem n_eqB {Qa Qb : Int → Prop} (ha : EvN c ta Γ ka (SomeI Qa)) (hb : EvN c tb Γ kb (SomeI Qb)) : EvN c (tOp (rEqA c.K) ta tb) Γ .v (fun d => ∃ w : Bool, d = .bool w) :=
  n_bin ha hb fun x y ⟨m, hm, _⟩ ⟨n, hn, _⟩ => ⟨.bool (decide (V.int m = V.int n)), ⟨_, rfl⟩, fun H O v u Q bv bu q => by
    subst hm; subst hn
    rw [bv.int', bu.int']
    exact .inl ⟨rfl, q _ H Rr.rf (.bl _)⟩⟩
end
end Lm

/-! two places exchanged; drawn changes; which pairs a table keeps -/
namespace Lm
open PySem PySem.Spec PyProof.Rows L2
section
variable {c : Ct} {H H0 : Hp} {O : List Addr} {σ : L2.St} {Γ : List (Option Rs)} {te ta tb tx ty : TE} {k ka kb kc : Kd} {P : Out → Prop} {n m : Nat} {i j x y : Int} {ns : List Int} {u : TS}
theorem g_subI (e : Env c H0 O H σ Γ) (hx : Γ[n]? = some (some (.o (.list (ns.map .int))))) (hi : Ev c ta Γ ka (.int i)) (hj : i = (m : Int)) (hm : m < ns.length) {Q : L2.St → Hp → Prop}
    (q : ∀ H', Env c H0 O H' σ (Γ.set n (some (.o (.list ((ns.set m x).map .int))))) → Q σ H') : gSub (tVar n) ta rSetL (.int x) σ H Q := by
  obtain ⟨p, xs, f, hq, hp, fa, qf, qO, _⟩ := e.write (es := (ns.map PyData.int).set m (.int x)) hx
  refine ⟨.ref p, hq, hi H0 O H σ e _ fun w H3 r3 ws => ?_⟩
  have e3 := e.on r3
  obtain ⟨q', xs', f', hq', hp', fa', qf', qO', wr⟩ := e3.write (es := (ns.map PyData.int).set m (.int x)) hx
  have : q' = p := by rw [hq] at hq'; cases hq'; rfl
  subst this
  have lx : xs'.length = (ns.map PyData.int).length := (fa'.bo fun a ha => e.okO a (qO' a ha)).len
  refine ⟨q', xs', i, m, rfl, (Res.bo e ws).int', hp', by rw [lx]; exact ixN_at hj (by simpa using hm), q _ ?_⟩
  obtain ⟨rfl, ba⟩ := fa'.flat0 (flatAll_ints ns)
  have := wr (xs'.set m (.int x)) ((FoAll.set0 fa' (e := .int x) rfl (.int x)).up (fun _ _ s => sqT_upd hp' s) fun a ha => nomatch ha)
  rw [List.map_set]
  exact this
/-- xs[i], xs[j] = (x, y) -/
theorem s_swap {i2 : Int} {m2 : Nat} (hx : Γ[n]? = some (some (.o (.list (ns.map .int))))) (h : Ev c te Γ .v (.tuple [.int x, .int y])) (hi : Ev c ta Γ ka (.int i)) (hj : i = (m : Int)) (hm : m < ns.length)
    (hi2 : Ev c tb (Γ.set n (some (.o (.list ((ns.set m x).map .int))))) kb (.int i2)) (hj2 : i2 = (m2 : Int)) (hm2 : m2 < ns.length) (hn : n < Γ.length)
    (p : P (.nx (Γ.set n (some (.o (.list (((ns.set m x).set m2 y).map .int))))))) : Sd c (tAsg te (gTupA c.K 2 (gCons (gSub (tVar n) ta rSetL) (gCons (gSub (tVar n) tb rSetL) gNil)))) Γ P := fun H0 O H σ D e s =>
  h H0 O H σ e _ fun v H2 r rs => by
    have e2 := e.on r
    obtain ⟨a, xs, rfl, sl, al⟩ := (Res.bo e rs).tup'
    have hxs := BoAll.ints (ns := [x, y]) al
    subst hxs
    refine ⟨a, _, rfl, .inl sl.sq, rfl, _, _, rfl, g_subI e2 hx hi hj hm fun H' e3 => ⟨_, _, rfl, g_subI e3 (ns := ns.set m x) (by rw [List.getElem?_set_self hn]) hi2 hj2 (by simpa using hm2) fun H'' e4 => ?_⟩⟩
    rw [List.set_set] at e4
    exact ⟨rfl, s _ p O H'' _ e4⟩
/-- xs[i] = x, both drawn -/
theorem s_setNN {Qx Qi : Int → Prop} (hx : Γ[n]? = some (some (.o (.list (ns.map .int))))) (h : EvN c te Γ k (SomeI Qx)) (hi : EvN c ta Γ ka (SomeI Qi)) (hQ : ∀ i, Qi i → 0 ≤ i ∧ i < ns.length)
    (p : ∀ x i, Qx x → Qi i → P (.nx (Γ.set n (some (.o (.list ((ns.set i.toNat x).map .int))))))) : Sd c (tAsg te (gSub (tVar n) ta rSetL)) Γ P := fun H0 O H σ D e s =>
  h H0 O H σ e _ fun v d H2 ⟨x, hd, qx⟩ r rs => by
    subst hd
    have e2 := e.on r
    have hv := (Res.bo e rs).int'
    subst hv
    obtain ⟨q, xs, f, hq, hp, fa, qf, qO, _⟩ := e2.write (es := ns.map PyData.int) hx
    refine ⟨.ref q, hq, hi H0 O H2 σ e2 _ fun w d H3 ⟨i, hd, qi⟩ r3 ws => ?_⟩
    subst hd
    have e3 := e2.on r3
    obtain ⟨i0, i1⟩ := hQ i qi
    obtain ⟨q', xs', f', hq', hp', fa', qf', qO', wr⟩ := e3.write (es := (ns.map PyData.int).set i.toNat (.int x)) hx
    have : q' = q := by rw [hq] at hq'; cases hq'; rfl
    subst this
    have lx : xs'.length = (ns.map PyData.int).length := (fa'.bo fun a ha => e.okO a (qO' a ha)).len
    refine ⟨q', xs', i, i.toNat, rfl, (Res.bo e2 ws).int', hp', by rw [lx]; exact ixN_at (by omega) (by rw [List.length_map]; omega), s _ (p x i qx qi) O _ σ ?_⟩
    obtain ⟨rfl, ba⟩ := fa'.flat0 (flatAll_ints ns)
    have := wr (xs'.set i.toNat (.int x)) ((FoAll.set0 fa' (e := .int x) rfl (.int x)).up (fun _ _ s => sqT_upd hp' s) fun a ha => nomatch ha)
    rw [List.map_set]
    exact this
/-- f(stream, x, e, y) with a drawn one in the middle -/
theorem n_callM3 {pre : PreS} {E : XK} {st l : Addr} {P Pa : PyData → Prop} {m : Nat} {x y : PyData} (hc : c.so = some (st, l)) (hst : Γ[m]? = some (some (.r (.ref st)))) (hx : Ev c tx Γ kb x) (h : EvN c ta Γ ka Pa) (hy : Ev c ty Γ kc y) (hp : ∀ z, Pa z → ∃ P', pre [x, z, y] k P' ∧ ∀ d, P' d → P d) :
    EvN c (tCall (spS c.K pre) [] E (tCons (tVar m) (tCons tx (tCons ta (tCons ty tNil))))) Γ k P := fun H0 O H σ e Q q => by
  have hcc : c = sc c.K st l := by cases c; cases hc; rfl
  refine ⟨_, e.slotR hst, hx H0 O H σ e _ fun v1 H1 r1 s1 => h H0 O H1 σ (e.on r1) _ fun v2 z H2 pz r2 s2 => hy H0 O H2 σ ((e.on r1).on r2) _ fun v3 H3 r3 s3 => ?_⟩
  have r : Rr c H H3 := (r1.tr r2).tr r3
  obtain ⟨P', pp, pi⟩ := hp z pz
  refine ⟨st, l, [v1, v2, v3], _, k, P', rfl, (e.on r).jH st l hc, by rw [← hcc]; exact .cons (Res.bo e (Res.on e r1 (r2.tr r3) s1)) (.cons (Res.bo (e.on r1) (Res.on (e.on r1) r2 r3 s2)) (.cons (Res.bo ((e.on r1).on r2) s3) .nil)), pp, fun v d H4 pd r4 rt => ?_⟩
  rw [← hcc] at r4 rt
  refine q v d H4 (pi d pd) (r.tr r4) ?_
  exact (Rt.res (e.on r) r4 rt).back e r
/-- a, b = (x, y) -/
theorem q_parD {x y : PyData} {i j : Nat} (hx : Ev c tx Γ .v x) (hy : Ev c ty Γ .v y) (p : Sd c u ((Γ.set i (some (.v x))).set j (some (.v y))) P) : Sd c (tSeq (tPar i j (tCons tx (tCons ty tNil))) u) Γ P := fun H0 O H σ D e s =>
  hx H0 O H σ e _ fun v1 H1 r1 s1 => hy H0 O H1 σ (e.on r1) _ fun v2 H2 r2 s2 => by
    have e2 := (e.on r1).on r2
    exact ⟨v1, v2, rfl, p H0 O H2 _ D ((e2.setV (Res.on e r1 r2 s1)).setV s2) s⟩
end
theorem swap_perm {l : List Int} {i j : Nat} (hi : i < l.length) (hj : j < l.length) : ((l.set i (l.getD j 0)).set j (l.getD i 0)).Perm l := by
  rw [List.perm_iff_count]
  intro a
  have e1 : l.getD i 0 = l[i] := by simp [List.getD_eq_getElem?_getD, hi]
  have e2 : l.getD j 0 = l[j] := by simp [List.getD_eq_getElem?_getD, hj]
  have hj' : j < (l.set i l[j]).length := by simpa using hj
  rw [e1, e2, List.count_set hj', List.count_set hi, List.getElem_set]
  have c1 : l[i] == a → 1 ≤ l.count a := fun h => by
    rw [beq_iff_eq] at h
    exact List.count_pos_iff.mpr (h ▸ List.getElem_mem hi)
  by_cases q : i = j
  · subst q
    simp
    by_cases h : l[i] = a
    · have := c1 (by simpa using h); simp [h]; omega
    · simp [h]
  · by_cases h1 : l[i] = a <;> by_cases h2 : l[j] = a <;> simp [q, h1, h2]
    · have := c1 (by simpa using h1); omega
    · have := c1 (by simpa using h1); omega
theorem perm_counts {f g : List Int} {v : Int} (h : f.Perm g) : countsI f v = countsI g v := by
  unfold countsI
  exact List.map_congr_left fun i _ => by rw [h.count_eq]
theorem OkP.perm {as f g : List Int} {v b : Int} (h : OkP (as, f) v b) (p : g.Perm f) : OkP (as, g) v b :=
  ⟨h.alc, by have := p.length_eq; have := h.len; simp only at *; omega, fun x hx => h.rng x (p.mem_iff.mp hx), by show countsI g v = as; rw [perm_counts p]; exact h.cnt⟩
/-- drawn steps from one assignment to one of another allocation -/
structure Chg (A B g : List Int) (v : Int) (n : Nat) (t : Int) : Prop where
  rng : ∀ x ∈ g, 0 ≤ x ∧ x < v
  len : (g.length : Int) = B.sum
  up : ∀ x : Nat, (x : Int) < v → A.getD x 0 ≤ B.getD x 0 → (g.count (x : Int) : Int) ≤ B.getD x 0
  dn : ∀ x : Nat, (x : Int) < v → B.getD x 0 < A.getD x 0 → (g.count (x : Int) : Int) = if x < n then B.getD x 0 else if x = n then A.getD x 0 - t else A.getD x 0
theorem sum_counts {g : List Int} {v : Int} (hr : ∀ x ∈ g, 0 ≤ x ∧ x < v) (hv : 0 ≤ v) : (countsI g v).sum = g.length := (alc_counts hr hv).sum
theorem sum_at_le : ∀ {xs ys : List Int}, xs.length = ys.length → (∀ i < xs.length, xs.getD i 0 ≤ ys.getD i 0) → xs.sum ≤ ys.sum ∧ (xs.sum = ys.sum → xs = ys)
  | [], [], _, _ => ⟨Int.le_refl _, fun _ => rfl⟩
  | x :: xs, y :: ys, h, g => by
    have ih := sum_at_le (xs := xs) (ys := ys) (by simpa using h) fun i hi => by have := g (i + 1) (by simpa using hi); simpa using this
    have g0 := g 0 (by simp)
    simp at g0
    simp only [List.sum_cons]
    refine ⟨by omega, fun e => ?_⟩
    rw [ih.2 (by omega), show x = y by omega]
  | [], _ :: _, h, _ => by simp at h
  | _ :: _, [], h, _ => by simp at h
section
variable {A B g : List Int} {v b : Int} {n : Nat} {t : Int}
theorem Chg.start (hA : OkP (A, g) v b) (hB : Alc B v b) : Chg A B g v 0 0 := by
  have c : ∀ x : Nat, (x : Int) < v → (g.count (x : Int) : Int) = A.getD x 0 := fun x hx => by
    have h : countsI g v = A := hA.cnt
    rw [← h, countsI_get hx]
  refine ⟨hA.rng, by rw [hB.sum]; exact hA.len, fun x hx h => by rw [c x hx]; exact h, fun x hx h => ?_⟩
  rw [c x hx, if_neg (by omega)]
  split <;> omega
theorem Chg.next (h : Chg A B g v n t) (ht : B.getD n 0 < A.getD n 0 → t = A.getD n 0 - B.getD n 0) : Chg A B g v (n + 1) 0 := by
  refine ⟨h.rng, h.len, h.up, fun x hx hd => ?_⟩
  rw [h.dn x hx hd]
  by_cases e : x = n
  · subst e
    rw [if_neg (by omega), if_pos rfl, if_pos (by omega), ht hd]
    omega
  · by_cases q : x < n
    · rw [if_pos q, if_pos (by omega)]
    · rw [if_neg q, if_neg e, if_neg (by omega)]
      split <;> omega
theorem Chg.wanted (hB : Alc B v b) (h : Chg A B g v n t) (hn : (n : Int) < v) (ht : 0 ≤ t ∧ t < A.getD n 0 - B.getD n 0) : 0 < g.count (n : Int) ∧ ∃ x : Nat, (x : Int) < v ∧ (g.count (x : Int) : Int) < B.getD x 0 := by
  have cn := h.dn n hn (by omega)
  rw [if_neg (by omega), if_pos rfl] at cn
  have bl := hB.len
  have bn : 0 ≤ B.getD n 0 := hB.nn _ (gd_mem (by omega))
  refine ⟨by omega, Classical.byContradiction fun hc => ?_⟩
  have ge : ∀ i < B.length, B.getD i 0 ≤ (countsI g v).getD i 0 := fun i hi => by
    rw [countsI_get (by omega)]
    refine Decidable.byContradiction fun q => hc ⟨i, by omega, by omega⟩
  have s := sum_at_le (xs := B) (ys := countsI g v) (by rw [countsI_len]; omega) ge
  have e := s.2 (by rw [sum_counts h.rng (by omega), h.len])
  have : B.getD n 0 = (g.count (n : Int) : Int) := by rw [← countsI_get (ns := g) hn, ← e]
  omega
theorem Chg.step (h : Chg A B g v n t) (ht : 0 ≤ t ∧ t < A.getD n 0 - B.getD n 0) (hn : (n : Int) < v) {p x : Nat} (hp : p < g.length) (hg : g.getD p 0 = (n : Int)) (hx : (x : Int) < v) (hw : (g.count (x : Int) : Int) < B.getD x 0) : Chg A B (g.set p (x : Int)) v n (t + 1) := by
  have cn := h.dn n hn (by omega)
  rw [if_neg (by omega), if_pos rfl] at cn
  have nx : x ≠ n := fun e => by subst e; omega
  have e1 : g[p] = (n : Int) := by rw [← hg]; simp [List.getD_eq_getElem?_getD, hp]
  have pos : 1 ≤ g.count (n : Int) := List.count_pos_iff.mpr (e1 ▸ List.getElem_mem hp)
  have cnt : ∀ y : Nat, ((g.set p (x : Int)).count (y : Int) : Int) = (g.count (y : Int) : Int) - (if y = n then 1 else 0) + (if y = x then 1 else 0) := fun y => by
    rw [List.count_set hp, e1]
    by_cases h1 : y = n
    · subst h1
      have : ¬ (x : Int) = (y : Int) := by omega
      simp [this, show ¬ y = x by omega]
      omega
    · by_cases h2 : y = x
      · subst h2
        have : ¬ (n : Int) = (y : Int) := by omega
        simp [this, h1]
      · have a1 : ¬ (n : Int) = (y : Int) := by omega
        have a2 : ¬ (x : Int) = (y : Int) := by omega
        simp [a1, a2, h1, h2]
  refine ⟨fun z hz => ?_, by simpa using h.len, fun y hy hd => ?_, fun y hy hd => ?_⟩
  · rcases List.mem_or_eq_of_mem_set hz with w | w
    · exact h.rng z w
    · omega
  · have := h.up y hy hd
    rw [cnt y]
    by_cases h1 : y = n
    · subst h1; omega
    · by_cases h2 : y = x
      · subst h2; rw [if_neg h1, if_pos rfl]; omega
      · rw [if_neg h1, if_neg h2]; omega
  · have hc := h.dn y hy hd
    have y2 : y ≠ x := fun e => by
      subst e
      rw [hc] at hw
      by_cases q : y < n
      · rw [if_pos q] at hw; omega
      · rw [if_neg q, if_neg nx] at hw; omega
    rw [cnt y, hc, if_neg y2]
    by_cases h1 : y = n
    · subst h1
      rw [if_neg (by omega), if_pos rfl, if_pos rfl, if_neg (by omega), if_pos rfl]
      omega
    · rw [if_neg h1]
      simp only [if_neg h1]
      omega
theorem Chg.fin (hB : Alc B v b) (hv : 0 ≤ v) (h : Chg A B g v v.toNat 0) : OkP (B, g) v b := by
  have bl := hB.len
  refine ⟨hB, by show (g.length : Int) = b; rw [h.len, hB.sum], h.rng, ?_⟩
  have le : ∀ i < (countsI g v).length, (countsI g v).getD i 0 ≤ B.getD i 0 := fun i hi => by
    rw [countsI_len] at hi
    rw [countsI_get (by omega)]
    by_cases q : B.getD i 0 < A.getD i 0
    · rw [h.dn i (by omega) q, if_pos hi]
      exact Int.le_refl _
    · exact h.up i (by omega) (by omega)
  exact (sum_at_le (by rw [countsI_len]; omega) le).2 (by rw [sum_counts h.rng hv, h.len])
end
/-! which pairs a table keeps -/
def wstB (A B : List Int) (x y : Int) : Bool := !decide (x = y) && (decide (A.getD x.toNat 0 ≤ B.getD x.toNat 0) || decide (B.getD y.toNat 0 ≤ A.getD y.toNat 0))
theorem keep_iff {A B f g : List Int} {v b : Int} (h : OkP (A, f) v b) (h2 : OkP (B, g) v b) (hv : 0 ≤ v) (hb : b ≤ 20) : (!((f.zip g).any fun p => wstB A B p.1 p.2)) = decide (zs ne1 f g = trI A B) := by
  have l1 := h.len
  have l2 := h2.len
  have di := due_iff (h.asg hb) (h2.asg hb) (by simp only at *; omega) hv
  have e1 : countsI f v = A := h.cnt
  have e2 : countsI g v = B := h2.cnt
  simp only at di
  rw [e1, e2] at di
  rw [← di, Bool.eq_iff_iff, dueF_none, Bool.not_eq_true', List.any_eq_false]
  constructor
  · intro w p hp
    obtain ⟨hz, hne⟩ := of_mvL hp
    have := w _ hz
    unfold wstB at this
    simp [hne] at this
    simp only [List.getD_eq_getElem?_getD]
    omega
  · intro w p hp
    unfold wstB
    by_cases q : p.1 = p.2
    · simp [q]
    · obtain ⟨n, hn⟩ := mem_mvL hp q
      have := w _ hn
      simp [q]
      simp only [List.getD_eq_getElem?_getD] at this
      omega
/-- a table of a plan -/
structure Tbl (T A : List (List Int)) (v b : Int) : Prop where
  ser : Ser A v b
  len : T.length = A.length
  ok : ∀ i < A.length, OkP (A.getD i [], T.getD i []) v b
theorem Tbl.tab {T A : List (List Int)} {v b : Int} (h : Tbl T A v b) : Tab T A v b := ⟨h.ser, h.len, fun t ht => by
  obtain ⟨i, hi⟩ := List.getElem?_of_mem ht
  have il := (List.getElem?_eq_some_iff.mp hi).1
  have ok := h.ok i (by rw [← h.len]; exact il)
  have e : T.getD i [] = t := by rw [List.getD_eq_getElem?_getD, hi]; rfl
  rw [e] at ok
  exact ⟨ok.asg h.ser.b20, ok.len⟩⟩
theorem Tbl.right {T A : List (List Int)} {v b : Int} (h : Tbl T A v b) : tabOf T A v = true := by
  unfold tabOf
  refine decide_eq_true (List.ext_getElem (by simpa using h.len) fun i h1 h2 => ?_)
  have ok := (h.ok i h2).cnt
  have il : i < T.length := by simpa using h1
  simp only [List.getD_eq_getElem?_getD, List.getElem?_eq_getElem h2, List.getElem?_eq_getElem il] at ok
  rw [List.getElem_map]
  exact ok
def keepB (A T : List (List Int)) (r : List Int) : Bool := decide (zs ne1 (T.getD (r.getD 0 0).toNat []) (T.getD (r.getD 1 0).toNat []) = trI (A.getD (r.getD 0 0).toNat []) (A.getD (r.getD 1 0).toNat []))
def keptL (A P T : List (List Int)) : List Int := ((List.range P.length).filter fun q => keepB A T (P.getD q [])).map fun (i : Nat) => (i : Int)
def sp_is_wasted (K : PySem.W.Frag) : Sp := spD K fun ds k d => ∃ (A B : List Int) (x y : Nat), ds = [tupD A, tupD B, .int (x : Int), .int (y : Int)] ∧ x < A.length ∧ y < A.length ∧ A.length = B.length ∧ k = .v ∧ d = .bool (wstB A B x y)
def sp_keeps (K : PySem.W.Frag) : Sp := spD K fun ds k d => ∃ (A T : List (List Int)) (v b i j : Int), ds = [.tuple (A.map tupD), tupD [i, j], .tuple (T.map tupD)] ∧ Tbl T A v b ∧ 0 ≤ i ∧ i < j ∧ j < A.length ∧ k = .v ∧ d = .bool (keepB A T [i, j])
def sp_kept_by (K : PySem.W.Frag) : Sp := spD K fun ds k d => ∃ (A P T : List (List Int)) (v b : Int), ds = [.tuple (A.map tupD), .tuple (P.map tupD), .tuple (T.map tupD)] ∧ Tbl T A v b ∧ Prs P A.length ∧ k = .v ∧ d = tupD (keptL A P T)
def sp_kept_pairs (K : PySem.W.Frag) : Sp := spD K fun ds k d => ∃ (A P T : List (List Int)) (v b : Int), ds = [.tuple (A.map tupD), .tuple (P.map tupD), .tuple (T.map tupD)] ∧ Tbl T A v b ∧ A.length ≤ 6 ∧ Prs P A.length ∧ k = .v ∧ d = tupD (keptL A P T)
def sp__law_kept (K : PySem.W.Frag) : Sp := spD K fun ds k d => ∃ (A P T : List (List Int)) (v b : Int), ds = [.tuple (A.map tupD), .tuple (P.map tupD), .tuple (T.map tupD)] ∧ Tbl T A v b ∧ Prs P A.length ∧ k = .v ∧ d = tupD (keptL A P T)
def sp__law_drawnP (K : PySem.W.Frag) : Sp := spS K fun ds k Q => ∃ (as : List Int) (v b : Int), ds = [tupD as] ∧ Alc as v b ∧ 1 ≤ v ∧ v ≤ 5 ∧ b ≤ 20 ∧ k = .v ∧ Q = fun d => ∃ f, d = tupD f ∧ OkP (as, f) v b
def sp__law_change (K : PySem.W.Frag) : Sp := spS K fun ds k Q => ∃ (A B f : List Int) (v b : Int), ds = [tupD A, tupD B, tupD f] ∧ OkP (A, f) v b ∧ Alc B v b ∧ 1 ≤ v ∧ v ≤ 5 ∧ b ≤ 20 ∧ k = .v ∧ Q = fun d => ∃ g, d = tupD g ∧ OkP (B, g) v b
end Lm

/-! the program's own text, by places -/
namespace W
open PySem PySem.Spec PyProof.Rows L2 Lm
def topS (i : Nat) : Stmt := PySem.Challenge.pw_leastmoved_k38_kept_pairs.main.body.getD i (.Pass ⟨0, 0, 0, 0⟩)
abbrev s_is_integer : Stmt := topS 6
abbrev n_is_integer : List Str := ["value", "least", "greatest"]
abbrev p_is_integer : List Str := ["value", "least", "greatest"]
theorem sc_is_integer : FnScope n_is_integer p_is_integer (defScope s_is_integer) := ⟨rfl, rfl, rfl, by decide +kernel, rfl, by decide +kernel, by decide +kernel⟩
abbrev s_are_integers : Stmt := topS 7
abbrev n_are_integers : List Str := ["value", "least", "greatest", "part"]
abbrev p_are_integers : List Str := ["value", "least", "greatest"]
theorem sc_are_integers : FnScope n_are_integers p_are_integers (defScope s_are_integers) := ⟨rfl, rfl, rfl, by decide +kernel, rfl, by decide +kernel, by decide +kernel⟩
abbrev s_require : Stmt := topS 8
abbrev n_require : List Str := ["holds", "name"]
abbrev p_require : List Str := ["holds", "name"]
theorem sc_require : FnScope n_require p_require (defScope s_require) := ⟨rfl, rfl, rfl, by decide +kernel, rfl, by decide +kernel, by decide +kernel⟩
abbrev s_is_allocation : Stmt := topS 10
abbrev n_is_allocation : List Str := ["value", "variants", "buckets"]
abbrev p_is_allocation : List Str := ["value", "variants", "buckets"]
theorem sc_is_allocation : FnScope n_is_allocation p_is_allocation (defScope s_is_allocation) := ⟨rfl, rfl, rfl, by decide +kernel, rfl, by decide +kernel, by decide +kernel⟩
abbrev s_is_bounded_allocation : Stmt := topS 11
abbrev n_is_bounded_allocation : List Str := ["value"]
abbrev p_is_bounded_allocation : List Str := ["value"]
theorem sc_is_bounded_allocation : FnScope n_is_bounded_allocation p_is_bounded_allocation (defScope s_is_bounded_allocation) := ⟨rfl, rfl, rfl, by decide +kernel, rfl, by decide +kernel, by decide +kernel⟩
abbrev s_are_allocations : Stmt := topS 12
abbrev n_are_allocations : List Str := ["value", "most", "each"]
abbrev p_are_allocations : List Str := ["value", "most"]
theorem sc_are_allocations : FnScope n_are_allocations p_are_allocations (defScope s_are_allocations) := ⟨rfl, rfl, rfl, by decide +kernel, rfl, by decide +kernel, by decide +kernel⟩
abbrev s_is_assignment : Stmt := topS 14
abbrev n_is_assignment : List Str := ["value", "variants", "buckets"]
abbrev p_is_assignment : List Str := ["value", "variants", "buckets"]
theorem sc_is_assignment : FnScope n_is_assignment p_is_assignment (defScope s_is_assignment) := ⟨rfl, rfl, rfl, by decide +kernel, rfl, by decide +kernel, by decide +kernel⟩
abbrev s_is_bounded_assignment : Stmt := topS 15
abbrev n_is_bounded_assignment : List Str := ["value", "variants"]
abbrev p_is_bounded_assignment : List Str := ["value", "variants"]
theorem sc_is_bounded_assignment : FnScope n_is_bounded_assignment p_is_bounded_assignment (defScope s_is_bounded_assignment) := ⟨rfl, rfl, rfl, by decide +kernel, rfl, by decide +kernel, by decide +kernel⟩
abbrev s_check_assignment : Stmt := topS 16
abbrev n_check_assignment : List Str := ["value", "name"]
abbrev p_check_assignment : List Str := ["value", "name"]
theorem sc_check_assignment : FnScope n_check_assignment p_check_assignment (defScope s_check_assignment) := ⟨rfl, rfl, rfl, by decide +kernel, rfl, by decide +kernel, by decide +kernel⟩
abbrev s_check_enough : Stmt := topS 17
abbrev n_check_enough : List Str := ["variants", "assignment", "least"]
abbrev p_check_enough : List Str := ["variants", "assignment"]
theorem sc_check_enough : FnScope n_check_enough p_check_enough (defScope s_check_enough) := ⟨rfl, rfl, rfl, by decide +kernel, rfl, by decide +kernel, by decide +kernel⟩
abbrev s_allocation_of : Stmt := topS 18
abbrev n_allocation_of : List Str := ["assignment", "variants", "variant"]
abbrev p_allocation_of : List Str := ["assignment", "variants"]
theorem sc_allocation_of : FnScope n_allocation_of p_allocation_of (defScope s_allocation_of) := ⟨rfl, rfl, rfl, by decide +kernel, rfl, by decide +kernel, by decide +kernel⟩
abbrev s_is_assignment_of : Stmt := topS 19
abbrev n_is_assignment_of : List Str := ["value", "allocation", "variants"]
abbrev p_is_assignment_of : List Str := ["value", "allocation"]
theorem sc_is_assignment_of : FnScope n_is_assignment_of p_is_assignment_of (defScope s_is_assignment_of) := ⟨rfl, rfl, rfl, by decide +kernel, rfl, by decide +kernel, by decide +kernel⟩
abbrev s_are_assignments_of : Stmt := topS 20
abbrev n_are_assignments_of : List Str := ["value", "allocations", "part", "allocation"]
abbrev p_are_assignments_of : List Str := ["value", "allocations"]
theorem sc_are_assignments_of : FnScope n_are_assignments_of p_are_assignments_of (defScope s_are_assignments_of) := ⟨rfl, rfl, rfl, by decide +kernel, rfl, by decide +kernel, by decide +kernel⟩
abbrev s_is_pair : Stmt := topS 23
abbrev n_is_pair : List Str := ["value", "many"]
abbrev p_is_pair : List Str := ["value", "many"]
theorem sc_is_pair : FnScope n_is_pair p_is_pair (defScope s_is_pair) := ⟨rfl, rfl, rfl, by decide +kernel, rfl, by decide +kernel, by decide +kernel⟩
abbrev s_are_pairs : Stmt := topS 24
abbrev n_are_pairs : List Str := ["value", "many", "pair"]
abbrev p_are_pairs : List Str := ["value", "many"]
theorem sc_are_pairs : FnScope n_are_pairs p_are_pairs (defScope s_are_pairs) := ⟨rfl, rfl, rfl, by decide +kernel, rfl, by decide +kernel, by decide +kernel⟩
abbrev s_check_plan : Stmt := topS 25
abbrev n_check_plan : List Str := ["allocations", "pairs"]
abbrev p_check_plan : List Str := ["allocations", "pairs"]
theorem sc_check_plan : FnScope n_check_plan p_check_plan (defScope s_check_plan) := ⟨rfl, rfl, rfl, by decide +kernel, rfl, by decide +kernel, by decide +kernel⟩
abbrev s_is_wasted : Stmt := topS 26
abbrev n_is_wasted : List Str := ["before", "after", "old", "new"]
abbrev p_is_wasted : List Str := ["before", "after", "old", "new"]
theorem sc_is_wasted : FnScope n_is_wasted p_is_wasted (defScope s_is_wasted) := ⟨rfl, rfl, rfl, by decide +kernel, rfl, by decide +kernel, by decide +kernel⟩
abbrev s_keeps : Stmt := topS 27
abbrev n_keeps : List Str := ["allocations", "pair", "table", "one", "two", "before", "after", "old", "new"]
abbrev p_keeps : List Str := ["allocations", "pair", "table"]
theorem sc_keeps : FnScope n_keeps p_keeps (defScope s_keeps) := ⟨rfl, rfl, rfl, by decide +kernel, rfl, by decide +kernel, by decide +kernel⟩
abbrev s_kept_by : Stmt := topS 28
abbrev n_kept_by : List Str := ["allocations", "pairs", "table", "index", "pair"]
abbrev p_kept_by : List Str := ["allocations", "pairs", "table"]
theorem sc_kept_by : FnScope n_kept_by p_kept_by (defScope s_kept_by) := ⟨rfl, rfl, rfl, by decide +kernel, rfl, by decide +kernel, by decide +kernel⟩
abbrev s_kept_pairs : Stmt := topS 29
abbrev n_kept_pairs : List Str := ["allocations", "pairs", "table"]
abbrev p_kept_pairs : List Str := ["allocations", "pairs", "table"]
theorem sc_kept_pairs : FnScope n_kept_pairs p_kept_pairs (defScope s_kept_pairs) := ⟨rfl, rfl, rfl, by decide +kernel, rfl, by decide +kernel, by decide +kernel⟩
abbrev s__law_stream : Stmt := topS 31
abbrev n__law_stream : List Str := ["script"]
abbrev p__law_stream : List Str := ["script"]
theorem sc__law_stream : FnScope n__law_stream p__law_stream (defScope s__law_stream) := ⟨rfl, rfl, rfl, by decide +kernel, rfl, by decide +kernel, by decide +kernel⟩
abbrev s__law_next : Stmt := topS 32
abbrev n__law_next : List Str := ["stream", "many", "k", "cell", "digit"]
abbrev p__law_next : List Str := ["stream", "many"]
theorem sc__law_next : FnScope n__law_next p__law_next (defScope s__law_next) := ⟨rfl, rfl, rfl, by decide +kernel, rfl, by decide +kernel, by decide +kernel⟩
abbrev s__law_is_integer : Stmt := topS 33
abbrev n__law_is_integer : List Str := ["actual"]
abbrev p__law_is_integer : List Str := ["actual"]
theorem sc__law_is_integer : FnScope n__law_is_integer p__law_is_integer (defScope s__law_is_integer) := ⟨rfl, rfl, rfl, by decide +kernel, rfl, by decide +kernel, by decide +kernel⟩
abbrev s__law_equal : Stmt := topS 34
abbrev n__law_equal : List Str := ["actual", "due", "at"]
abbrev p__law_equal : List Str := ["actual", "due"]
theorem sc__law_equal : FnScope n__law_equal p__law_equal (defScope s__law_equal) := ⟨rfl, rfl, rfl, by decide +kernel, rfl, by decide +kernel, by decide +kernel⟩
abbrev s__law_allocation : Stmt := topS 35
abbrev n__law_allocation : List Str := ["stream", "variants", "buckets", "shares", "variant", "bucket"]
abbrev p__law_allocation : List Str := ["stream", "variants", "buckets"]
theorem sc__law_allocation : FnScope n__law_allocation p__law_allocation (defScope s__law_allocation) := ⟨rfl, rfl, rfl, by decide +kernel, rfl, by decide +kernel, by decide +kernel⟩
abbrev s__law_near : Stmt := topS 36
abbrev n__law_near : List Str := ["stream", "allocation", "shares", "turn", "old", "new"]
abbrev p__law_near : List Str := ["stream", "allocation"]
theorem sc__law_near : FnScope n__law_near p__law_near (defScope s__law_near) := ⟨rfl, rfl, rfl, by decide +kernel, rfl, by decide +kernel, by decide +kernel⟩
abbrev s__law_series : Stmt := topS 37
abbrev n__law_series : List Str := ["stream", "variants", "buckets", "many", "found", "turn"]
abbrev p__law_series : List Str := ["stream", "variants", "buckets", "many"]
theorem sc__law_series : FnScope n__law_series p__law_series (defScope s__law_series) := ⟨rfl, rfl, rfl, by decide +kernel, rfl, by decide +kernel, by decide +kernel⟩
abbrev s__law_sorted : Stmt := topS 38
abbrev n__law_sorted : List Str := ["allocation", "found", "variant", "bucket"]
abbrev p__law_sorted : List Str := ["allocation"]
theorem sc__law_sorted : FnScope n__law_sorted p__law_sorted (defScope s__law_sorted) := ⟨rfl, rfl, rfl, by decide +kernel, rfl, by decide +kernel, by decide +kernel⟩
abbrev s__law_transfer : Stmt := topS 39
abbrev n__law_transfer : List Str := ["first", "second", "a", "b"]
abbrev p__law_transfer : List Str := ["first", "second"]
theorem sc__law_transfer : FnScope n__law_transfer p__law_transfer (defScope s__law_transfer) := ⟨rfl, rfl, rfl, by decide +kernel, rfl, by decide +kernel, by decide +kernel⟩
abbrev s__law_churn : Stmt := topS 40
abbrev n__law_churn : List Str := ["first", "second", "at"]
abbrev p__law_churn : List Str := ["first", "second"]
theorem sc__law_churn : FnScope n__law_churn p__law_churn (defScope s__law_churn) := ⟨rfl, rfl, rfl, by decide +kernel, rfl, by decide +kernel, by decide +kernel⟩
abbrev s__law_drawn : Stmt := topS 41
abbrev n__law_drawn : List Str := ["stream", "allocation", "found", "at", "other"]
abbrev p__law_drawn : List Str := ["stream", "allocation"]
theorem sc__law_drawn : FnScope n__law_drawn p__law_drawn (defScope s__law_drawn) := ⟨rfl, rfl, rfl, by decide +kernel, rfl, by decide +kernel, by decide +kernel⟩
abbrev s__law_all_pairs : Stmt := topS 42
abbrev n__law_all_pairs : List Str := ["many", "found", "i", "j"]
abbrev p__law_all_pairs : List Str := ["many"]
theorem sc__law_all_pairs : FnScope n__law_all_pairs p__law_all_pairs (defScope s__law_all_pairs) := ⟨rfl, rfl, rfl, by decide +kernel, rfl, by decide +kernel, by decide +kernel⟩
abbrev s__law_pairs : Stmt := topS 43
abbrev n__law_pairs : List Str := ["stream", "many", "most", "left", "found", "turn"]
abbrev p__law_pairs : List Str := ["stream", "many", "most"]
theorem sc__law_pairs : FnScope n__law_pairs p__law_pairs (defScope s__law_pairs) := ⟨rfl, rfl, rfl, by decide +kernel, rfl, by decide +kernel, by decide +kernel⟩
abbrev s__law_kept : Stmt := topS 44
abbrev n__law_kept : List Str := ["allocations", "pairs", "table", "found", "at", "i", "j"]
abbrev p__law_kept : List Str := ["allocations", "pairs", "table"]
theorem sc__law_kept : FnScope n__law_kept p__law_kept (defScope s__law_kept) := ⟨rfl, rfl, rfl, by decide +kernel, rfl, by decide +kernel, by decide +kernel⟩
abbrev s__law_change : Stmt := topS 45
abbrev n__law_change : List Str := ["stream", "before", "behind", "assignment", "found", "old", "turn", "places", "at", "wanted", "new"]
abbrev p__law_change : List Str := ["stream", "before", "behind", "assignment"]
theorem sc__law_change : FnScope n__law_change p__law_change (defScope s__law_change) := ⟨rfl, rfl, rfl, by decide +kernel, rfl, by decide +kernel, by decide +kernel⟩
abbrev s_law : Stmt := topS 46
abbrev n_law : List Str := ["script", "stream", "variants", "many", "allocations", "pairs", "turn", "table", "at", "row", "base"]
abbrev p_law : List Str := ["script"]
theorem sc_law : FnScope n_law p_law (defScope s_law) := ⟨rfl, rfl, rfl, by decide +kernel, rfl, by decide +kernel, by decide +kernel⟩
structure Txt (mg : Str → Option Value) : Prop where
  b_abs : mg "abs" = none
  b_all : mg "all" = none
  b_any : mg "any" = none
  b_bool : mg "bool" = none
  b_enumerate : mg "enumerate" = none
  b_int : mg "int" = none
  b_isinstance : mg "isinstance" = none
  b_len : mg "len" = none
  b_list : mg "list" = none
  b_max : mg "max" = none
  b_min : mg "min" = none
  b_range : mg "range" = none
  b_set : mg "set" = none
  b_str : mg "str" = none
  b_sum : mg "sum" = none
  b_tuple : mg "tuple" = none
  b_zip : mg "zip" = none
  k_MOST_VARIANTS : ∃ t, mg "MOST_VARIANTS" = some (.int 5 t)
  k_MOST_BUCKETS : ∃ t, mg "MOST_BUCKETS" = some (.int 20 t)
  k_MOST_ALLOCATIONS : ∃ t, mg "MOST_ALLOCATIONS" = some (.int 6 t)
end W

namespace W
open PySem PySem.Spec PyProof.Rows L2 Lm
theorem ok_is_integer {P : Program} {w : World} {K : PySem.W.Frag} {mg : Str → Option Value} {base : Heap} {f : Addr} {fd : FuncData} (F : Fun K "is_integer" "is_integer" s_is_integer f fd) (T : Txt mg) :
    FnOk P w K mg base CX0 1 f fd p_is_integer (sp_is_integer K) := by
  refine F.ok sc_is_integer (fun vs H Q E h => spD_len h (by rintro ds k d ⟨x, lo, hi, rfl, _⟩; rfl)) (fun cdv A outer s H vs Q E hr h => ⟨_, (pss_cons (ps_if (PW.pt (pw_or (pt_not (pt_val (pe_callB (k_isi (K := K) rfl) rfl T.b_isinstance (by decide +kernel) (pa_cons (pv 0) (pa_cons (pe_ty (n := "int") rfl T.b_int (by decide +kernel)) pa_nil))))) (pw_or1 (pt_val (pe_callB (k_isi (K := K) rfl) rfl T.b_isinstance (by decide +kernel) (pa_cons (pv 0) (pa_cons (pe_ty (n := "bool") rfl T.b_bool (by decide +kernel)) pa_nil))))))) (pss_one (ps_ret pe_bl)) pss_nil)
      (pss_one (ps_ret (pe_chain op_le op_le (pv 1) (pv 0) (pv 2))))), run_pure (N := n_is_integer) (fun ds k d hp => ?_) h⟩)
  obtain ⟨x, lo, hi, rfl, rfl, rfl⟩ := hp
  refine q_if (t_or (t_not (t_B (e_isi (d_var rfl) (kit_int x)))) fun _ => t_B (e_isi (d_var rfl) (kit_bool x))) (fun h => ?_) fun h => q_next ?_
  · refine q_ret d_bl (.inr ⟨rfl, rfl⟩) (.inl ?_)
    cases x <;> first | rfl | (simp [isIntTy, isBoolTy] at h)
  · cases x with
    | int i => exact s_ret (d_chain (d_var rfl) (d_var rfl) fun _ => d_var rfl) (.inr ⟨rfl, rfl⟩) (.inl rfl)
    | _ => simp [isIntTy, isBoolTy] at h

theorem ok_are_integers {P : Program} {w : World} {K : PySem.W.Frag} {mg : Str → Option Value} {base : Heap} {f : Addr} {fd : FuncData} (F : Fun K "are_integers" "are_integers" s_are_integers f fd) (T : Txt mg) (c_is_integer : Cal P w K mg base CX0 1 "is_integer" p_is_integer (sp_is_integer K)) :
    FnOk P w K mg base CX0 2 f fd p_are_integers (sp_are_integers K) := by
  refine F.ok sc_are_integers (fun vs H Q E h => spD_len h (by rintro ds k d ⟨x, lo, hi, rfl, _⟩; rfl)) (fun cdv A outer s H vs Q E hr h => ⟨_, (pss_one (ps_ret (pe_and (pe_callB (k_isi (K := K) rfl) rfl T.b_isinstance (by decide +kernel) (pa_cons (pv 0) (pa_cons (pe_ty (n := "tuple") rfl T.b_tuple (by decide +kernel)) pa_nil))) (pe_one (pe_callB (k_all (K := K) rfl rfl) rfl T.b_all (by decide +kernel) (pa_cons (pe_lc rfl sc_are_integers.nd (k_seq (K := K) rfl (pv 0)) (blkOk_by (own := [("part", 3)]) (N := n_are_integers) (sc := defScope s_are_integers) (by decide +kernel)) (fun _ _ _ _ _ => by exact (pg_name (i := 3) sc_are_integers.nd rfl (Or.inl rfl))) (fun _ _ _ _ _ => by exact pts_nil) (fun _ _ _ _ _ => by exact (pe_cal c_is_integer (hr.mono (by decide)) rfl pass0 (pa_cons (pv 3) (pa_cons (pv 1) (pa_cons (pv 2) pa_nil)))))) pa_nil)))))), run_pure (N := n_are_integers) (fun ds k d hp => ?_) h⟩)
  obtain ⟨x, lo, hi, rfl, hx, rfl, rfl⟩ := hp
  refine s_ret ((d_andV (b := areInts x lo hi) (e_isi (d_var rfl) (kit_tuple x)) fun hx' => ?_).to ?_) (.inr ⟨rfl, rfl⟩) (.inl rfl)
  · cases x with
    | tuple es =>
      refine (d_all (d_lcB (fun d => isIntD d lo hi) (i_seqT (d_var rfl) (by intro h; cases h)) (hx es rfl) fun a _ => ⟨_, _, g_name, fun j hj => hj, _, d_call (a_cons (d_var rfl) (a_cons (d_var rfl) (a_cons (d_var rfl) a_nil))) ⟨a, lo, hi, rfl, rfl, rfl⟩⟩)).to ?_
      show PyData.bool _ = .bool (es.all fun d => isIntD d lo hi)
      rw [List.all_map]
      rfl
    | _ => simp [isTupTy] at hx'
  · cases x <;> simp [isTupTy, areInts]

theorem ok_require {P : Program} {w : World} {K : PySem.W.Frag} {mg : Str → Option Value} {base : Heap} {f : Addr} {fd : FuncData} (F : Fun K "require" "require" s_require f fd) (T : Txt mg) :
    FnOk P w K mg base CX0 1 f fd p_require (sp_require K) := by
  refine F.ok sc_require (fun vs H Q E h => spD_len h (by rintro ds k d ⟨nm, rfl, _⟩; rfl)) (fun cdv A outer s H vs Q E hr h => ⟨_, (pss_one (ps_if (pt_not (pt_val (pv 0))) (pss_one ps_never) pss_nil)), run_pure (N := n_require) (fun ds k d hp => ?_) h⟩)
  obtain ⟨nm, rfl, rfl, rfl⟩ := hp
  exact s_no ((t_not (t_B (d_var (d := .bool true) rfl))).to rfl) (s_next (.inr ⟨rfl, rfl, _, rfl⟩))

theorem ok_is_allocation {P : Program} {w : World} {K : PySem.W.Frag} {mg : Str → Option Value} {base : Heap} {f : Addr} {fd : FuncData} (F : Fun K "is_allocation" "is_allocation" s_is_allocation f fd) (T : Txt mg) (c_are_integers : Cal P w K mg base CX0 2 "are_integers" p_are_integers (sp_are_integers K)) :
    FnOk P w K mg base CX0 3 f fd p_is_allocation (sp_is_allocation K) := by
  refine F.ok sc_is_allocation (fun vs H Q E h => spD_len h (by rintro ds k d ⟨x, n, b, rfl, _⟩; rfl)) (fun cdv A outer s H vs Q E hr h => ⟨_, (pss_one (ps_ret (pe_and (pe_cal c_are_integers (hr.mono (by decide)) rfl pass0 (pa_cons (pv 0) (pa_cons pe_int (pa_cons (pv 2) pa_nil)))) (pe_and (pe_cmpR (k_eq (K := K) rfl (rUnits hr)) (pe_callB (k_len (K := K) rfl) rfl T.b_len (by decide +kernel) (pa_cons (pv 0) pa_nil)) (pv 1) (nomark _)) (pe_one (pe_cmpR (k_eq (K := K) rfl (rUnits hr)) (pe_callB (k_sum (K := K) rfl rfl) rfl T.b_sum (by decide +kernel) (pa_cons (pv 0) pa_nil)) (pv 2) (nomark _))))))), run_pure (N := n_is_allocation) (fun ds k d hp => ?_) h⟩)
  obtain ⟨x, n, b, rfl, hx, rfl, rfl⟩ := hp
  refine s_ret (d_andV (d_call (a_cons (d_var rfl) (a_cons d_int (a_cons (d_var rfl) a_nil))) ⟨x, 0, b, rfl, hx, rfl, rfl⟩) fun h => ?_) (.inr ⟨rfl, rfl⟩) (.inl rfl)
  obtain ⟨ns, rfl, _⟩ := areInts_ints h
  refine d_andV ((e_eqI (d_lenT (d_var rfl)) (d_var rfl)).to (by rw [lenT_ints, List.length_map])) fun _ => ?_
  exact (e_eqI (e_sumT (d_var rfl)) (d_var rfl)).to (by rw [sumT_ints])

theorem ok_is_bounded_allocation {P : Program} {w : World} {K : PySem.W.Frag} {mg : Str → Option Value} {base : Heap} {f : Addr} {fd : FuncData} (F : Fun K "is_bounded_allocation" "is_bounded_allocation" s_is_bounded_allocation f fd) (T : Txt mg) (c_are_integers : Cal P w K mg base CX0 2 "are_integers" p_are_integers (sp_are_integers K)) :
    FnOk P w K mg base CX0 3 f fd p_is_bounded_allocation (sp_is_bounded_allocation K) := by
  refine F.ok sc_is_bounded_allocation (fun vs H Q E h => spD_len h (by rintro ds k d ⟨ns, v, b, rfl, _⟩; rfl)) (fun cdv A outer s H vs Q E hr h => ⟨_, (pss_cons (ps_if (pt_not (pt_val (pe_cal c_are_integers (hr.mono (by decide)) rfl pass0 (pa_cons (pv 0) (pa_cons pe_int (pa_cons (pe_const rfl T.k_MOST_BUCKETS) pa_nil)))))) (pss_one (ps_ret pe_bl)) pss_nil)
      (pss_one (ps_ret (pe_and (pe_chain op_le op_le pe_int (pe_callB (k_len (K := K) rfl) rfl T.b_len (by decide +kernel) (pa_cons (pv 0) pa_nil)) (pe_const rfl T.k_MOST_VARIANTS)) (pe_one (pe_cmpR op_le (pe_callB (k_sum (K := K) rfl rfl) rfl T.b_sum (by decide +kernel) (pa_cons (pv 0) pa_nil)) (pe_const rfl T.k_MOST_BUCKETS) (nomark _))))))), run_pure (N := n_is_bounded_allocation) (fun ds k d hp => ?_) h⟩)
  obtain ⟨ns, v, b, rfl, ha, h1, h5, hb, rfl, rfl⟩ := hp
  have hl := ha.len
  refine q_no ((t_not (t_B (d_call (a_cons (d_var rfl) (a_cons d_int (a_cons d_int a_nil))) ⟨.tuple (ns.map .int), 0, 20, rfl, small_ints (by omega), rfl, rfl⟩))).to ?_) ?_
  · rw [areInts_of fun n hn => ⟨ha.nn n hn, by have := ha.le n hn; omega⟩]; rfl
  refine s_ret ((d_andV (d_chain d_int (d_lenT (d_var rfl)) fun _ => d_int) fun _ => d_le (e_sumT (d_var rfl)) d_int).to ?_) (.inr ⟨rfl, rfl⟩) (.inl rfl)
  rw [List.length_map, ha.sum]
  simp
  omega

theorem ok_are_allocations {P : Program} {w : World} {K : PySem.W.Frag} {mg : Str → Option Value} {base : Heap} {f : Addr} {fd : FuncData} (F : Fun K "are_allocations" "are_allocations" s_are_allocations f fd) (T : Txt mg) (c_is_bounded_allocation : Cal P w K mg base CX0 3 "is_bounded_allocation" p_is_bounded_allocation (sp_is_bounded_allocation K)) (c_is_allocation : Cal P w K mg base CX0 3 "is_allocation" p_is_allocation (sp_is_allocation K)) :
    FnOk P w K mg base CX0 4 f fd p_are_allocations (sp_are_allocationsM K) := by
  refine F.ok sc_are_allocations (fun vs H Q E h => spD_len h (by rintro ds k d ⟨A, v, b, m, rfl, _⟩; rfl)) (fun cdv A outer s H vs Q E hr h => ⟨_, (pss_cons (ps_if (PW.pt (pw_or (pt_not (pt_val (pe_callB (k_isi (K := K) rfl) rfl T.b_isinstance (by decide +kernel) (pa_cons (pv 0) (pa_cons (pe_ty (n := "tuple") rfl T.b_tuple (by decide +kernel)) pa_nil))))) (pw_or1 (pt_not (pt_chain op_le op_le pe_int (pe_callB (k_len (K := K) rfl) rfl T.b_len (by decide +kernel) (pa_cons (pv 0) pa_nil)) (pv 1)))))) (pss_one (ps_ret pe_bl)) pss_nil)
      (pss_cons (ps_if (pt_not (pt_val (pe_cal c_is_bounded_allocation (hr.mono (by decide)) rfl pass0 (pa_cons (pe_ix (k_ix (K := K) rfl) (pv 0) pe_int (fun _ _ => rfl)) pa_nil)))) (pss_one (ps_ret pe_bl)) pss_nil)
      (pss_one (ps_ret (pe_callB (k_all (K := K) rfl rfl) rfl T.b_all (by decide +kernel) (pa_cons (pe_lc rfl sc_are_allocations.nd (k_seq (K := K) rfl (pv 0)) (blkOk_by (own := [("each", 2)]) (N := n_are_allocations) (sc := defScope s_are_allocations) (by decide +kernel)) (fun _ _ _ _ _ => by exact (pg_name (i := 2) sc_are_allocations.nd rfl (Or.inl rfl))) (fun _ _ _ _ _ => by exact pts_nil) (fun _ _ _ _ _ => by exact (pe_cal c_is_allocation (hr.mono (by decide)) rfl pass0 (pa_cons (pv 2) (pa_cons (pe_callB (k_len (K := K) rfl) rfl T.b_len (by decide +kernel) (pa_cons (pe_ix (k_ix (K := K) rfl) (pv 0) pe_int (fun _ _ => rfl)) pa_nil)) (pa_cons (pe_callB (k_sum (K := K) rfl rfl) rfl T.b_sum (by decide +kernel) (pa_cons (pe_ix (k_ix (K := K) rfl) (pv 0) pe_int (fun _ _ => rfl)) pa_nil)) pa_nil)))))) pa_nil)))))), run_pure (N := n_are_allocations) (fun ds k d hp => ?_) h⟩)
  obtain ⟨A, v, b, m, rfl, h, hm1, hm2, rfl, rfl⟩ := hp
  have h1 := h.l1
  have h2 := h.l2
  have h0 := h.at (i := 0) (by omega)
  refine q_no ((t_or (t_not (t_B (e_isi (d_var rfl) rfl))) fun _ => t_not (t_test (d_chain d_int (d_lenT (d_var rfl)) fun _ => d_var rfl))).to ?_) ?_
  · simp; omega
  refine q_no ((t_not (t_B (d_call (k := .v) (d := .bool true) (a_cons (e_ixT (d_var rfl) d_int (at_tup (j := 0) (by omega)) (flatT _)) a_nil) ⟨A.getD 0 [], v, b, rfl, h0, h.v1, h.v5, h.b20, rfl, rfl⟩))).to rfl) ?_
  refine s_ret ((d_all (d_lcB (l := A) (en := tupI) (fun _ => true) (i_rowsT (d_var rfl) kv_ne) (by omega) fun a ha => ⟨_, _, g_name, fun j hj => hj, .v, ?_⟩)).to ?_) (.inr ⟨rfl, rfl⟩) (.inl rfl)
  · refine (d_call (k := .v) (a_cons (d_var rfl) (a_cons (d_lenT (e_ixT (d_var rfl) d_int (at_tup (j := 0) (by omega)) (flatT _))) (a_cons (e_sumT (e_ixT (d_var rfl) d_int (at_tup (j := 0) (by omega)) (flatT _))) a_nil))) ⟨tupD a, _, _, rfl, small_ints (by have := h.len a ha; have := h.v5; omega), rfl, rfl⟩).to ?_
    rw [List.length_map, h0.len, h0.sum, (h.alc a ha).isAlloc]
  · simp

theorem ok_is_assignment {P : Program} {w : World} {K : PySem.W.Frag} {mg : Str → Option Value} {base : Heap} {f : Addr} {fd : FuncData} (F : Fun K "is_assignment" "is_assignment" s_is_assignment f fd) (T : Txt mg) (c_are_integers : Cal P w K mg base CX0 2 "are_integers" p_are_integers (sp_are_integers K)) :
    FnOk P w K mg base CX0 3 f fd p_is_assignment (sp_is_assignment K) := by
  refine F.ok sc_is_assignment (fun vs H Q E h => spD_len h (by rintro ds k d ⟨x, v, b, rfl, _⟩; rfl)) (fun cdv A outer s H vs Q E hr h => ⟨_, (pss_one (ps_ret (pe_and (pe_cal c_are_integers (hr.mono (by decide)) rfl pass0 (pa_cons (pv 0) (pa_cons pe_int (pa_cons (pe_op op_sub (pv 1) pe_int) pa_nil)))) (pe_one (pe_cmpR (k_eq (K := K) rfl (rUnits hr)) (pe_callB (k_len (K := K) rfl) rfl T.b_len (by decide +kernel) (pa_cons (pv 0) pa_nil)) (pv 2) (nomark _)))))), run_pure (N := n_is_assignment) (fun ds k d hp => ?_) h⟩)
  obtain ⟨x, v, b, rfl, hx, rfl, rfl⟩ := hp
  refine s_ret (d_andV (d_call (a_cons (d_var rfl) (a_cons d_int (a_cons (d_sub (d_var rfl) d_int) a_nil))) ⟨x, 0, v - 1, rfl, hx, rfl, rfl⟩) fun h => ?_) (.inr ⟨rfl, rfl⟩) (.inl rfl)
  obtain ⟨ns, rfl, _⟩ := areInts_ints h
  exact (e_eqI (d_lenT (d_var rfl)) (d_var rfl)).to (by rw [lenT_ints, List.length_map])

theorem ok_is_bounded_assignment {P : Program} {w : World} {K : PySem.W.Frag} {mg : Str → Option Value} {base : Heap} {f : Addr} {fd : FuncData} (F : Fun K "is_bounded_assignment" "is_bounded_assignment" s_is_bounded_assignment f fd) (T : Txt mg) (c_are_integers : Cal P w K mg base CX0 2 "are_integers" p_are_integers (sp_are_integers K)) :
    FnOk P w K mg base CX0 3 f fd p_is_bounded_assignment (sp_is_bounded_assignment K) := by
  refine F.ok sc_is_bounded_assignment (fun vs H Q E h => spD_len h (by rintro ds k d ⟨x, v, rfl, _⟩; rfl)) (fun cdv A outer s H vs Q E hr h => ⟨_, (pss_one (ps_ret (pe_and (pe_cal c_are_integers (hr.mono (by decide)) rfl pass0 (pa_cons (pv 0) (pa_cons pe_int (pa_cons (pe_op op_sub (pv 1) pe_int) pa_nil)))) (pe_one (pe_cmpR op_le (pe_callB (k_len (K := K) rfl) rfl T.b_len (by decide +kernel) (pa_cons (pv 0) pa_nil)) (pe_const rfl T.k_MOST_BUCKETS) (nomark _)))))), run_pure (N := n_is_bounded_assignment) (fun ds k d hp => ?_) h⟩)
  obtain ⟨x, v, rfl, hx, rfl, rfl⟩ := hp
  refine s_ret (d_andV (d_call (a_cons (d_var rfl) (a_cons d_int (a_cons (d_sub (d_var rfl) d_int) a_nil))) ⟨x, 0, v - 1, rfl, hx, rfl, rfl⟩) fun h => ?_) (.inr ⟨rfl, rfl⟩) (.inl rfl)
  obtain ⟨ns, rfl, _⟩ := areInts_ints h
  exact (d_le (d_lenT (d_var rfl)) d_int).to (by rw [lenT_ints, List.length_map])

theorem ok_check_assignment {P : Program} {w : World} {K : PySem.W.Frag} {mg : Str → Option Value} {base : Heap} {f : Addr} {fd : FuncData} (F : Fun K "check_assignment" "check_assignment" s_check_assignment f fd) (T : Txt mg) (c_require : Cal P w K mg base CX0 1 "require" p_require (sp_require K)) (c_is_bounded_assignment : Cal P w K mg base CX0 3 "is_bounded_assignment" p_is_bounded_assignment (sp_is_bounded_assignment K)) :
    FnOk P w K mg base CX0 4 f fd p_check_assignment (sp_check_assignment K) := by
  refine F.ok sc_check_assignment (fun vs H Q E h => spD_len h (by rintro ds k d ⟨x, nm, rfl, _⟩; rfl)) (fun cdv A outer s H vs Q E hr h => ⟨_, (pss_one (ps_expr (pe_cal c_require (hr.mono (by decide)) rfl pass0 (pa_cons (pe_cal c_is_bounded_assignment (hr.mono (by decide)) rfl pass0 (pa_cons (pv 0) (pa_cons (pe_const rfl T.k_MOST_VARIANTS) pa_nil))) (pa_cons (pv 1) pa_nil))))), run_pure (N := n_check_assignment) (fun ds k d hp => ?_) h⟩)
  obtain ⟨x, nm, rfl, hx, hb, rfl, rfl⟩ := hp
  refine s_drop (d_call (a_cons (d_call (a_cons (d_var rfl) (a_cons d_int a_nil)) ⟨x, 5, rfl, hx, rfl, rfl⟩) (a_cons (d_var rfl) a_nil)) ⟨nm, by rw [hb], rfl, rfl⟩) (.inr ⟨rfl, rfl, _, rfl⟩)

theorem ok_check_enough {P : Program} {w : World} {K : PySem.W.Frag} {mg : Str → Option Value} {base : Heap} {f : Addr} {fd : FuncData} (F : Fun K "check_enough" "check_enough" s_check_enough f fd) (T : Txt mg) (c_require : Cal P w K mg base CX0 1 "require" p_require (sp_require K)) (c_is_integer : Cal P w K mg base CX0 1 "is_integer" p_is_integer (sp_is_integer K)) :
    FnOk P w K mg base CX0 2 f fd p_check_enough (sp_check_enough K) := by
  refine F.ok sc_check_enough (fun vs H Q E h => spD_len h (by rintro ds k d ⟨v, ns, rfl, _⟩; rfl)) (fun cdv A outer s H vs Q E hr h => ⟨_, (pss_cons (ps_set (i := 2) sc_check_enough.nd rfl (Or.inl rfl) (pe_op (k_add (K := K) rfl) (pe_callBK (k_maxD (K := K) rfl rfl) rfl T.b_max (by decide +kernel) (pa_cons (pv 1) pa_nil) (pk_cons pe_int pk_nil)) pe_int))
      (pss_one (ps_expr (pe_cal c_require (hr.mono (by decide)) rfl pass0 (pa_cons (pe_cal c_is_integer (hr.mono (by decide)) rfl pass0 (pa_cons (pv 0) (pa_cons (pv 2) (pa_cons (pe_const rfl T.k_MOST_VARIANTS) pa_nil)))) (pa_cons pe_str pa_nil)))))), run_pure (N := n_check_enough) (fun ds k d hp => ?_) h⟩)
  obtain ⟨v, ns, rfl, h1, h2, rfl, rfl⟩ := hp
  refine q_asg (e_add (e_maxD (d_var rfl) d_int) d_int) ?_
  refine s_drop (d_call (a_cons (d_call (a_cons (d_var rfl) (a_cons (d_var rfl) (a_cons d_int a_nil))) ⟨.int v, mxD 0 ns + 1, 5, rfl, rfl, rfl⟩) (a_cons d_str a_nil)) ⟨"variants", ?_, rfl, rfl⟩) (.inr ⟨rfl, rfl, _, rfl⟩)
  simp [isIntD, h1, h2]

theorem ok_allocation_of {P : Program} {w : World} {K : PySem.W.Frag} {mg : Str → Option Value} {base : Heap} {f : Addr} {fd : FuncData} (F : Fun K "allocation_of" "allocation_of" s_allocation_of f fd) (T : Txt mg) (c_check_assignment : Cal P w K mg base CX0 4 "check_assignment" p_check_assignment (sp_check_assignment K)) (c_check_enough : Cal P w K mg base CX0 2 "check_enough" p_check_enough (sp_check_enough K)) :
    FnOk P w K mg base CX0 5 f fd p_allocation_of (sp_allocation_of K) := by
  refine F.ok sc_allocation_of (fun vs H Q E h => spD_len h (by rintro ds k d ⟨ns, v, rfl, _⟩; rfl)) (fun cdv A outer s H vs Q E hr h => ⟨_, (pss_cons (ps_expr (pe_cal c_check_assignment (hr.mono (by decide)) rfl pass0 (pa_cons (pv 0) (pa_cons pe_str pa_nil))))
      (pss_cons (ps_expr (pe_cal c_check_enough (hr.mono (by decide)) rfl pass0 (pa_cons (pv 1) (pa_cons (pv 0) pa_nil))))
      (pss_one (ps_ret (pe_callTy (k_tuple (K := K) rfl) rfl T.b_tuple (by decide +kernel) (pa_cons (pe_lc rfl sc_allocation_of.nd (pi_range1 rfl T.b_range (pa_cons (pv 1) pa_nil)) (blkOk_by (own := [("variant", 2)]) (N := n_allocation_of) (sc := defScope s_allocation_of) (by decide +kernel)) (fun _ _ _ _ _ => by exact (pg_name (i := 2) sc_allocation_of.nd rfl (Or.inl rfl))) (fun _ _ _ _ _ => by exact pts_nil) (fun _ _ _ _ _ => by exact (k_tm (K := K) rfl PySem.F.slot_tuple_count PySem.F.type_tuple_count (k_count (K := K) rfl) (pv 0) (pa_cons (pv 2) pa_nil)))) pa_nil)))))), run_pure (N := n_allocation_of) (fun ds k d hp => ?_) h⟩)
  obtain ⟨ns, v, rfl, ha, h1, h5, rfl, rfl⟩ := hp
  refine q_drop (d_call (a_cons (d_var rfl) (a_cons d_str a_nil)) ⟨_, _, rfl, ha.small, ha.bAsg h5, rfl, rfl⟩) ?_
  refine q_drop (d_call (a_cons (d_var rfl) (a_cons (d_var rfl) a_nil)) ⟨v, ns, rfl, ?_, h5, rfl, rfl⟩) ?_
  · have := mxD_le (ns := ns) (b := v - 1) (by omega) fun n hn => by have := (ha.rng n hn).2; omega
    omega
  refine s_ret (d_tuple ((d_lcI (fun i => (ns.count i : Int)) (i_rng1 (a_cons (d_var rfl) a_nil) (by omega) (by omega)) (by simp [upI]; omega) fun i _ => ⟨_, _, g_name, fun j hj => hj, _, d_count (d_var rfl) (d_var rfl)⟩)) (flatAll_ints _)) (.inr ⟨rfl, ?_⟩) (.inl rfl)
  exact flatT _

theorem ok_is_assignment_of {P : Program} {w : World} {K : PySem.W.Frag} {mg : Str → Option Value} {base : Heap} {f : Addr} {fd : FuncData} (F : Fun K "is_assignment_of" "is_assignment_of" s_is_assignment_of f fd) (T : Txt mg) (c_is_assignment : Cal P w K mg base CX0 3 "is_assignment" p_is_assignment (sp_is_assignment K)) (c_allocation_of : Cal P w K mg base CX0 5 "allocation_of" p_allocation_of (sp_allocation_of K)) :
    FnOk P w K mg base CX0 6 f fd p_is_assignment_of (sp_is_assignment_of K) := by
  refine F.ok sc_is_assignment_of (fun vs H Q E h => spD_len h (by rintro ds k d ⟨r, as, v, b, rfl, _⟩; rfl)) (fun cdv A outer s H vs Q E hr h => ⟨_, (pss_cons (ps_set (i := 2) sc_is_assignment_of.nd rfl (Or.inl rfl) (pe_callB (k_len (K := K) rfl) rfl T.b_len (by decide +kernel) (pa_cons (pv 1) pa_nil)))
      (pss_one (ps_ret (pe_and (pe_cal c_is_assignment (hr.mono (by decide)) rfl pass0 (pa_cons (pv 0) (pa_cons (pv 2) (pa_cons (pe_callB (k_sum (K := K) rfl rfl) rfl T.b_sum (by decide +kernel) (pa_cons (pv 1) pa_nil)) pa_nil)))) (pe_one (pe_cmpR (k_eq (K := K) rfl (rUnits hr)) (pe_cal c_allocation_of (hr.mono (by decide)) rfl pass0 (pa_cons (pv 0) (pa_cons (pv 2) pa_nil))) (pv 1) (nomark _))))))), run_pure (N := n_is_assignment_of) (fun ds k d hp => ?_) h⟩)
  obtain ⟨r, as, v, b, rfl, hr, hl, ha, h1, h5, rfl, rfl⟩ := hp
  have al := ha.len
  refine q_asg (d := .int v) ((d_lenT (d_var rfl)).to (by rw [List.length_map, al])) ?_
  refine s_ret ((d_andV (a := true) ((d_call (k := .v) (a_cons (d_var rfl) (a_cons (d_var rfl) (a_cons (e_sumT (d_var rfl)) a_nil))) ⟨tupD r, v, as.sum, rfl, hr.small, rfl, rfl⟩).to ?_) fun _ => e_eqTT (d_call (k := .v) (a_cons (d_var rfl) (a_cons (d_var rfl) a_nil)) ⟨r, v, rfl, hr, h1, h5, rfl, rfl⟩) (d_var rfl)).to (by simp)) (.inr ⟨rfl, rfl⟩) (.inl rfl)
  rw [ha.sum]
  unfold isAsgB
  rw [areInts_of fun n hn => ⟨(hr.rng n hn).1, by have := (hr.rng n hn).2; omega⟩, lenT_ints]
  simp [hl]

theorem ok_are_assignments_of {P : Program} {w : World} {K : PySem.W.Frag} {mg : Str → Option Value} {base : Heap} {f : Addr} {fd : FuncData} (F : Fun K "are_assignments_of" "are_assignments_of" s_are_assignments_of f fd) (T : Txt mg) (c_is_assignment_of : Cal P w K mg base CX0 6 "is_assignment_of" p_is_assignment_of (sp_is_assignment_of K)) :
    FnOk P w K mg base CX0 7 f fd p_are_assignments_of (sp_are_assignments_of K) := by
  refine F.ok sc_are_assignments_of (fun vs H Q E h => spD_len h (by rintro ds k d ⟨T, A, v, b, rfl, _⟩; rfl)) (fun cdv A outer s H vs Q E hr h => ⟨_, (pss_cons (ps_if (PW.pt (pw_or (pt_not (pt_val (pe_callB (k_isi (K := K) rfl) rfl T.b_isinstance (by decide +kernel) (pa_cons (pv 0) (pa_cons (pe_ty (n := "tuple") rfl T.b_tuple (by decide +kernel)) pa_nil))))) (pw_or1 (pt_cmpR (k_ne (K := K) rfl (rUnits hr)) (pe_callB (k_len (K := K) rfl) rfl T.b_len (by decide +kernel) (pa_cons (pv 0) pa_nil)) (pe_callB (k_len (K := K) rfl) rfl T.b_len (by decide +kernel) (pa_cons (pv 1) pa_nil)) (nomark _))))) (pss_one (ps_ret pe_bl)) pss_nil)
      (pss_one (ps_ret (pe_callB (k_all (K := K) rfl rfl) rfl T.b_all (by decide +kernel) (pa_cons (pe_lc rfl sc_are_assignments_of.nd (k_zip (K := K) rfl rfl T.b_zip (pa_cons (pv 0) (pa_cons (pv 1) pa_nil))) (blkOk_by (own := [("part", 2), ("allocation", 3)]) (N := n_are_assignments_of) (sc := defScope s_are_assignments_of) (by decide +kernel)) (fun _ _ _ _ _ => by exact (k_tup (K := K) (n := 2) rfl rfl (pgs_cons (pg_name (i := 2) sc_are_assignments_of.nd rfl (Or.inl rfl)) (pgs_cons (pg_name (i := 3) sc_are_assignments_of.nd rfl (Or.inl rfl)) pgs_nil)))) (fun _ _ _ _ _ => by exact pts_nil) (fun _ _ _ _ _ => by exact (pe_cal c_is_assignment_of (hr.mono (by decide)) rfl pass0 (pa_cons (pv 2) (pa_cons (pv 3) pa_nil))))) pa_nil))))), run_pure (N := n_are_assignments_of) (fun ds k d hp => ?_) h⟩)
  obtain ⟨T, A, v, b, rfl, h, rfl, rfl⟩ := hp
  have h2 := h.ser.l2
  have hl := h.len
  refine q_no ((t_or (t_not (t_B (e_isi (d_var rfl) rfl))) fun _ => t_test (e_neI (d_lenT (d_var rfl)) (d_lenT (d_var rfl)))).to ?_) ?_
  · simp [hl]
  have ez : zipD (T.map tupD) (A.map tupD) = (T.zip A).map fun p => .t [.d (tupD p.1), .d (tupD p.2)] := by
    unfold zipD
    rw [List.zip_map, List.map_map]
    rfl
  refine s_ret ((d_all (d_lcB (l := T.zip A) (en := fun p => .t [.d (tupD p.1), .d (tupD p.2)]) (fun p => decide (countsI p.1 v = p.2)) (ez ▸ i_zipT (a_consV (d_var rfl) (a_consV (d_var rfl) a_nil))) (by rw [List.length_zip]; omega) fun p hp => ⟨_, _, g_tup rfl (g_cons g_name (g_cons g_name g_nil)), fun j hj => hj, .v, d_call (k := .v) (a_cons (d_var rfl) (a_cons (d_var rfl) a_nil)) ⟨p.1, p.2, v, b, rfl, (h.asg _ (List.of_mem_zip hp).1).1, (h.asg _ (List.of_mem_zip hp).1).2, h.ser.alc _ (List.of_mem_zip hp).2, h.ser.v1, h.ser.v5, rfl, rfl⟩⟩)).to ?_) (.inr ⟨rfl, rfl⟩) (.inl rfl)
  congr 1
  exact zip_all T A hl

theorem ok_is_pair {P : Program} {w : World} {K : PySem.W.Frag} {mg : Str → Option Value} {base : Heap} {f : Addr} {fd : FuncData} (F : Fun K "is_pair" "is_pair" s_is_pair f fd) (T : Txt mg) (c_are_integers : Cal P w K mg base CX0 2 "are_integers" p_are_integers (sp_are_integers K)) :
    FnOk P w K mg base CX0 3 f fd p_is_pair (sp_is_pairP K) := by
  refine F.ok sc_is_pair (fun vs H Q E h => spD_len h (by rintro ds k d ⟨i, j, m, rfl, _⟩; rfl)) (fun cdv A outer s H vs Q E hr h => ⟨_, (pss_one (ps_ret (pe_and (pe_cal c_are_integers (hr.mono (by decide)) rfl pass0 (pa_cons (pv 0) (pa_cons pe_int (pa_cons (pe_op op_sub (pv 1) pe_int) pa_nil)))) (pe_and (pe_cmpR (k_eq (K := K) rfl (rUnits hr)) (pe_callB (k_len (K := K) rfl) rfl T.b_len (by decide +kernel) (pa_cons (pv 0) pa_nil)) pe_int (nomark _)) (pe_one (pe_cmpR op_lt (pe_ix (k_ix (K := K) rfl) (pv 0) pe_int (fun _ _ => rfl)) (pe_ix (k_ix (K := K) rfl) (pv 0) pe_int (fun _ _ => rfl)) (nomark _))))))), run_pure (N := n_is_pair) (fun ds k d hp => ?_) h⟩)
  obtain ⟨i, j, m, rfl, h0, h1, h2, rfl, rfl⟩ := hp
  have ha : areInts (tupD [i, j]) 0 (m - 1) = true := areInts_of (ns := [i, j]) fun x hx => by
    simp only [List.mem_cons, List.not_mem_nil, or_false] at hx
    rcases hx with rfl | rfl <;> omega
  exact s_ret ((d_andV (a := true) (b := true) (d_call (k := .v) (d := .bool true) (a_cons (d_var rfl) (a_cons d_int (a_cons (d_sub (d_var rfl) d_int) a_nil))) ⟨tupD [i, j], 0, m - 1, rfl, small_ints (ns := [i, j]) (by simp), rfl, by rw [ha]⟩) fun _ => d_andV (a := true) (b := true) ((e_eqI (d_lenT (d_var rfl)) d_int).to rfl) fun _ => (d_lt (e_ixT (d_var rfl) d_int (at_ints (ns := [i, j]) (j := 0) (by simp)) rfl) (e_ixT (d_var rfl) d_int (at_ints (ns := [i, j]) (j := 1) (by simp)) rfl)).to (by simp [h1])).to rfl) (.inr ⟨rfl, rfl⟩) (.inl rfl)

theorem ok_are_pairs {P : Program} {w : World} {K : PySem.W.Frag} {mg : Str → Option Value} {base : Heap} {f : Addr} {fd : FuncData} (F : Fun K "are_pairs" "are_pairs" s_are_pairs f fd) (T : Txt mg) (c_is_pair : Cal P w K mg base CX0 3 "is_pair" p_is_pair (sp_is_pairP K)) :
    FnOk P w K mg base CX0 4 f fd p_are_pairs (sp_are_pairs K) := by
  refine F.ok sc_are_pairs (fun vs H Q E h => spD_len h (by rintro ds k d ⟨P, m, rfl, _⟩; rfl)) (fun cdv A outer s H vs Q E hr h => ⟨_, (pss_cons (ps_if (PW.pt (pw_or (pt_not (pt_val (pe_callB (k_isi (K := K) rfl) rfl T.b_isinstance (by decide +kernel) (pa_cons (pv 0) (pa_cons (pe_ty (n := "tuple") rfl T.b_tuple (by decide +kernel)) pa_nil))))) (pw_or1 (pt_not (pt_val (pe_callB (k_all (K := K) rfl rfl) rfl T.b_all (by decide +kernel) (pa_cons (pe_lc rfl sc_are_pairs.nd (k_seq (K := K) rfl (pv 0)) (blkOk_by (own := [("pair", 2)]) (N := n_are_pairs) (sc := defScope s_are_pairs) (by decide +kernel)) (fun _ _ _ _ _ => by exact (pg_name (i := 2) sc_are_pairs.nd rfl (Or.inl rfl))) (fun _ _ _ _ _ => by exact pts_nil) (fun _ _ _ _ _ => by exact (pe_cal c_is_pair (hr.mono (by decide)) rfl pass0 (pa_cons (pv 2) (pa_cons (pv 1) pa_nil))))) pa_nil))))))) (pss_one (ps_ret pe_bl)) pss_nil)
      (pss_one (ps_ret (pe_cmpR (k_eq (K := K) rfl (rUnits hr)) (k_lenSetR (K := K) rfl rfl T.b_len rfl T.b_set (pv 0) (rUnits5 hr)) (pe_callB (k_len (K := K) rfl) rfl T.b_len (by decide +kernel) (pa_cons (pv 0) pa_nil)) (nomark _))))), run_pure (N := n_are_pairs) (fun ds k d hp => ?_) h⟩)
  obtain ⟨P, m, rfl, h, rfl, rfl⟩ := hp
  have hl := h.len
  refine q_no ((t_or (a := false) (b := false) ((t_not (t_B (e_isi (d_var rfl) rfl))).to rfl) fun _ => (t_not (t_B ((d_all (d_lcB (l := P) (en := tupI) (fun _ => true) (i_rowsT (d_var rfl) kv_ne) (by omega) fun r hr => ⟨_, _, g_name, fun j hj => hj, .v, ?_⟩)).to (y := .bool true) (by simp)))).to rfl).to rfl) ?_
  · obtain ⟨i, j, rfl, h0, h1, h2⟩ := h.two r hr
    exact d_call (k := .v) (a_cons (d_var rfl) (a_cons (d_var rfl) a_nil)) ⟨i, j, m, rfl, h0, h1, h2, rfl, rfl⟩
  · exact s_ret ((e_eqI (e_lenSetT (d_var rfl) (by omega)) (d_lenT (d_var rfl))).to (by rw [ddR_self h.nd, List.length_map]; simp)) (.inr ⟨rfl, rfl⟩) (.inl rfl)

theorem ok_check_plan {P : Program} {w : World} {K : PySem.W.Frag} {mg : Str → Option Value} {base : Heap} {f : Addr} {fd : FuncData} (F : Fun K "check_plan" "check_plan" s_check_plan f fd) (T : Txt mg) (c_require : Cal P w K mg base CX0 1 "require" p_require (sp_require K)) (c_are_allocations : Cal P w K mg base CX0 4 "are_allocations" p_are_allocations (sp_are_allocationsM K)) (c_are_pairs : Cal P w K mg base CX0 4 "are_pairs" p_are_pairs (sp_are_pairs K)) :
    FnOk P w K mg base CX0 5 f fd p_check_plan (sp_check_plan K) := by
  refine F.ok sc_check_plan (fun vs H Q E h => spD_len h (by rintro ds k d ⟨A, P, v, b, rfl, _⟩; rfl)) (fun cdv A outer s H vs Q E hr h => ⟨_, (pss_cons (ps_expr (pe_cal c_require (hr.mono (by decide)) rfl pass0 (pa_cons (pe_cal c_are_allocations (hr.mono (by decide)) rfl pass0 (pa_cons (pv 0) (pa_cons (pe_const rfl T.k_MOST_ALLOCATIONS) pa_nil))) (pa_cons pe_str pa_nil))))
      (pss_one (ps_expr (pe_cal c_require (hr.mono (by decide)) rfl pass0 (pa_cons (pe_cal c_are_pairs (hr.mono (by decide)) rfl pass0 (pa_cons (pv 1) (pa_cons (pe_callB (k_len (K := K) rfl) rfl T.b_len (by decide +kernel) (pa_cons (pv 0) pa_nil)) pa_nil))) (pa_cons pe_str pa_nil)))))), run_pure (N := n_check_plan) (fun ds k d hp => ?_) h⟩)
  obtain ⟨A, P, v, b, rfl, hA, l6, hP, rfl, rfl⟩ := hp
  refine q_drop (d_call (k := .v) (d := .none) (a_cons (d_call (k := .v) (d := .bool true) (a_cons (d_var rfl) (a_cons d_int a_nil)) ⟨A, v, b, 6, rfl, hA, by omega, by decide, rfl, rfl⟩) (a_cons d_str a_nil)) ⟨_, rfl, rfl, rfl⟩) ?_
  exact s_drop (d_call (k := .v) (d := .none) (a_cons (d_call (k := .v) (d := .bool true) (a_cons (d_var rfl) (a_cons (d_lenT (d_var rfl)) a_nil)) ⟨P, A.length, by rw [List.length_map], hP, rfl, rfl⟩) (a_cons d_str a_nil)) ⟨_, rfl, rfl, rfl⟩) (.inr ⟨rfl, rfl, _, rfl⟩)

theorem ok_is_wasted {P : Program} {w : World} {K : PySem.W.Frag} {mg : Str → Option Value} {base : Heap} {f : Addr} {fd : FuncData} (F : Fun K "is_wasted" "is_wasted" s_is_wasted f fd) (T : Txt mg) :
    FnOk P w K mg base CX0 1 f fd p_is_wasted (sp_is_wasted K) := by
  refine F.ok sc_is_wasted (fun vs H Q E h => spD_len h (by rintro ds k d ⟨A, B, x, y, rfl, _⟩; rfl)) (fun cdv A outer s H vs Q E hr h => ⟨_, (pss_one (ps_ret (pe_and (pe_cmpR (k_ne (K := K) rfl (rUnits hr)) (pv 2) (pv 3) (nomark _)) (pe_one (pe_or (pe_cmpR op_ge (pe_ix (k_ix (K := K) rfl) (pv 1) (pv 2) (fun _ _ => rfl)) (pe_ix (k_ix (K := K) rfl) (pv 0) (pv 2) (fun _ _ => rfl)) (nomark _)) (pe_one (pe_cmpR op_le (pe_ix (k_ix (K := K) rfl) (pv 1) (pv 3) (fun _ _ => rfl)) (pe_ix (k_ix (K := K) rfl) (pv 0) (pv 3) (fun _ _ => rfl)) (nomark _)))))))), run_pure (N := n_is_wasted) (fun ds k d hp => ?_) h⟩)
  obtain ⟨A, B, x, y, rfl, hx, hy, hl, rfl, rfl⟩ := hp
  exact s_ret (Ev.to (d_andV (e_neI (d_var rfl) (d_var rfl)) fun _ => d_orV (d_ge (e_ixT (d_var rfl) (d_var rfl) (at_ints (ns := B) (j := x) (by omega)) rfl) (e_ixT (d_var rfl) (d_var rfl) (at_ints (ns := A) (j := x) hx) rfl)) fun _ => d_le (e_ixT (d_var rfl) (d_var rfl) (at_ints (ns := B) (j := y) (by omega)) rfl) (e_ixT (d_var rfl) (d_var rfl) (at_ints (ns := A) (j := y) hy) rfl)) rfl) (.inr ⟨rfl, rfl⟩) (.inl rfl)

theorem ok_keeps {P : Program} {w : World} {K : PySem.W.Frag} {mg : Str → Option Value} {base : Heap} {f : Addr} {fd : FuncData} (F : Fun K "keeps" "keeps" s_keeps f fd) (T : Txt mg) (c_is_wasted : Cal P w K mg base CX0 1 "is_wasted" p_is_wasted (sp_is_wasted K)) :
    FnOk P w K mg base CX0 2 f fd p_keeps (sp_keeps K) := by
  refine F.ok sc_keeps (fun vs H Q E h => spD_len h (by rintro ds k d ⟨A, T, v, b, i, j, rfl, _⟩; rfl)) (fun cdv A outer s H vs Q E hr h => ⟨_, (pss_cons (ps_asg (pv 1) (k_tupA (K := K) (n := 2) rfl rfl (pgs_cons (pg_name (i := 3) sc_keeps.nd rfl (Or.inl rfl)) (pgs_cons (pg_name (i := 4) sc_keeps.nd rfl (Or.inl rfl)) pgs_nil))))
      (pss_cons (ps_asg (pe_tupN (pa_cons (pe_ix (k_ix (K := K) rfl) (pv 0) (pv 3) (fun _ _ => rfl)) (pa_cons (pe_ix (k_ix (K := K) rfl) (pv 0) (pv 4) (fun _ _ => rfl)) pa_nil))) (k_tupA (K := K) (n := 2) rfl rfl (pgs_cons (pg_name (i := 5) sc_keeps.nd rfl (Or.inr rfl)) (pgs_cons (pg_name (i := 6) sc_keeps.nd rfl (Or.inr rfl)) pgs_nil))))
      (pss_one (ps_ret (pe_not (pe_callB (k_any (K := K) rfl rfl) rfl T.b_any (by decide +kernel) (pa_cons (pe_lc rfl sc_keeps.nd (k_zip (K := K) rfl rfl T.b_zip (pa_cons (pe_ix (k_ix (K := K) rfl) (pv 2) (pv 3) (fun _ _ => rfl)) (pa_cons (pe_ix (k_ix (K := K) rfl) (pv 2) (pv 4) (fun _ _ => rfl)) pa_nil))) (blkOk_by (own := [("old", 7), ("new", 8)]) (N := n_keeps) (sc := defScope s_keeps) (by decide +kernel)) (fun _ _ _ _ _ => by exact (k_tup (K := K) (n := 2) rfl rfl (pgs_cons (pg_name (i := 7) sc_keeps.nd rfl (Or.inl rfl)) (pgs_cons (pg_name (i := 8) sc_keeps.nd rfl (Or.inl rfl)) pgs_nil)))) (fun _ _ _ _ _ => by exact pts_nil) (fun _ _ _ _ _ => by exact (pe_cal c_is_wasted (hr.mono (by decide)) rfl pass0 (pa_cons (pv 5) (pa_cons (pv 6) (pa_cons (pv 7) (pa_cons (pv 8) pa_nil))))))) pa_nil))))))), run_pure (N := n_keeps) (fun ds k d hp => ?_) h⟩)
  obtain ⟨A, T, v, b, i, j, rfl, h, i0, ij, jl, rfl, rfl⟩ := hp
  obtain ⟨i, rfl⟩ := Int.eq_ofNat_of_zero_le i0
  obtain ⟨j, rfl⟩ := Int.eq_ofNat_of_zero_le (show 0 ≤ j by omega)
  have tl := h.len
  have hi : i < A.length := by omega
  have hj : j < A.length := by omega
  have pi := h.ok i hi
  have pj := h.ok j hj
  have v1 := h.ser.v1
  have b20 := h.ser.b20
  have ai := pi.alc.len
  have aj := pj.alc.len
  have li := pi.len
  have lj := pj.len
  simp only at ai aj li lj
  refine q_unp (fun d => d = tupD [(i : Int), (j : Int)]) (d_var rfl).n ?_
  rintro d rfl
  refine ⟨_, _, _, .inl rfl, flatAll_ints [(i : Int), (j : Int)], rfl, g_cons g_name (g_cons g_name g_nil), ?_⟩
  refine q_unp (fun d => d = .tuple [tupD (A.getD i []), tupD (A.getD j [])]) (d_tup (a_consV (e_ixT (d_var rfl) (d_var rfl) (at_tup hi) (flatT _)) (a_consV (e_ixT (d_var rfl) (d_var rfl) (at_tup hj) (flatT _)) a_nil)) (by simp)).n ?_
  rintro d rfl
  refine ⟨_, _, _, .inl rfl, by simp [flatAll, flatD, flatAll_ints], rfl, g_cons g_name (g_cons g_name g_nil), ?_⟩
  have ki := keep_iff pi pj (by omega) b20
  refine s_ret (Ev.to (d_notV (d_any (d_lcB (l := (T.getD i []).zip (T.getD j [])) (en := zipI) (fun p => wstB (A.getD i []) (A.getD j []) p.1 p.2) (i_zipTI (a_consV (e_ixT (d_var rfl) (d_var rfl) (at_tup (by omega)) (flatT _)) (a_consV (e_ixT (d_var rfl) (d_var rfl) (at_tup (by omega)) (flatT _)) a_nil))) (by rw [List.length_zip]; omega) fun p hp => ⟨_, _, g_tup rfl (g_cons g_name (g_cons g_name g_nil)), fun j hj => hj, .v, ?_⟩))) ?_) (.inr ⟨rfl, rfl⟩) (.inl rfl)
  · have r1 := pi.rng _ (List.of_mem_zip hp).1
    have r2 := pj.rng _ (List.of_mem_zip hp).2
    obtain ⟨x, hx⟩ := Int.eq_ofNat_of_zero_le r1.1
    obtain ⟨y, hy⟩ := Int.eq_ofNat_of_zero_le r2.1
    rw [hx, hy]
    exact d_call (k := .v) (a_cons (d_var rfl) (a_cons (d_var rfl) (a_cons (d_var rfl) (a_cons (d_var rfl) a_nil)))) ⟨A.getD i [], A.getD j [], x, y, rfl, by omega, by omega, by omega, rfl, rfl⟩
  · rw [List.any_map]
    show PyData.bool (!((T.getD i []).zip (T.getD j [])).any fun p => wstB (A.getD i []) (A.getD j []) p.1 p.2) = _
    rw [ki]
    rfl

theorem ok_kept_by {P : Program} {w : World} {K : PySem.W.Frag} {mg : Str → Option Value} {base : Heap} {f : Addr} {fd : FuncData} (F : Fun K "kept_by" "kept_by" s_kept_by f fd) (T : Txt mg) (c_keeps : Cal P w K mg base CX0 2 "keeps" p_keeps (sp_keeps K)) :
    FnOk P w K mg base CX0 3 f fd p_kept_by (sp_kept_by K) := by
  refine F.ok sc_kept_by (fun vs H Q E h => spD_len h (by rintro ds k d ⟨A, P, T, v, b, rfl, _⟩; rfl)) (fun cdv A outer s H vs Q E hr h => ⟨_, (pss_one (ps_ret (pe_callTy (k_tuple (K := K) rfl) rfl T.b_tuple (by decide +kernel) (pa_cons (pe_lc rfl sc_kept_by.nd (k_enum (K := K) rfl rfl T.b_enumerate (pa_cons (pv 1) pa_nil)) (blkOk_by (own := [("index", 3), ("pair", 4)]) (N := n_kept_by) (sc := defScope s_kept_by) (by decide +kernel)) (fun _ _ _ _ _ => by exact (k_tup (K := K) (n := 2) rfl rfl (pgs_cons (pg_name (i := 3) sc_kept_by.nd rfl (Or.inl rfl)) (pgs_cons (pg_name (i := 4) sc_kept_by.nd rfl (Or.inl rfl)) pgs_nil)))) (fun _ _ _ _ _ => by exact (pts_one (pt_val (pe_cal c_keeps (hr.mono (by decide)) rfl pass0 (pa_cons (pv 0) (pa_cons (pv 4) (pa_cons (pv 2) pa_nil))))))) (fun _ _ _ _ _ => by exact (pv 3))) pa_nil)))), run_pure (N := n_kept_by) (fun ds k d hp => ?_) h⟩)
  obtain ⟨A, P, T, v, b, rfl, h, hP, rfl, rfl⟩ := hp
  have pl := hP.len
  refine s_ret (d_tuple (Ev.to (d_lc (l := List.range P.length) (en := fun i => Im.t [.d (.int (i : Nat)), .d (tupD (P.getD i []))]) (fun q => keepB A T (P.getD q [])) (fun (i : Nat) => .int (i : Int)) (enumI_rows ▸ i_enumT (a_consV (d_var rfl) a_nil)) (by simp; omega) fun q hq => ⟨_, _, g_tup rfl (g_cons g_name (g_cons g_name g_nil)), fun j hj => hj, t_B (k := .v) ?_, fun _ => (d_var rfl).fo rfl⟩) (by unfold keptL; rw [List.map_map]; rfl)) (flatAll_ints _)) (.inr ⟨rfl, flatT _⟩) (.inl rfl)
  have hq' := List.mem_range.mp hq
  obtain ⟨i, j, e, i0, ij, jm⟩ := hP.two _ (gL_mem hq')
  rw [e]
  exact d_call (k := .v) (a_cons (d_var rfl) (a_cons (d_var rfl) (a_cons (d_var rfl) a_nil))) ⟨A, T, v, b, i, j, rfl, h, i0, ij, jm, rfl, rfl⟩

theorem ok_kept_pairs {P : Program} {w : World} {K : PySem.W.Frag} {mg : Str → Option Value} {base : Heap} {f : Addr} {fd : FuncData} (F : Fun K "kept_pairs" "kept_pairs" s_kept_pairs f fd) (T : Txt mg) (c_check_plan : Cal P w K mg base CX0 5 "check_plan" p_check_plan (sp_check_plan K)) (c_require : Cal P w K mg base CX0 1 "require" p_require (sp_require K)) (c_kept_by : Cal P w K mg base CX0 3 "kept_by" p_kept_by (sp_kept_by K)) (c_are_assignments_of : Cal P w K mg base CX0 7 "are_assignments_of" p_are_assignments_of (sp_are_assignments_of K)) :
    FnOk P w K mg base CX0 8 f fd p_kept_pairs (sp_kept_pairs K) := by
  refine F.ok sc_kept_pairs (fun vs H Q E h => spD_len h (by rintro ds k d ⟨A, P, T, v, b, rfl, _⟩; rfl)) (fun cdv A outer s H vs Q E hr h => ⟨_, (pss_cons (ps_expr (pe_cal c_check_plan (hr.mono (by decide)) rfl pass0 (pa_cons (pv 0) (pa_cons (pv 1) pa_nil))))
      (pss_cons (ps_expr (pe_cal c_require (hr.mono (by decide)) rfl pass0 (pa_cons (pe_cal c_are_assignments_of (hr.mono (by decide)) rfl pass0 (pa_cons (pv 2) (pa_cons (pv 0) pa_nil))) (pa_cons pe_str pa_nil))))
      (pss_one (ps_ret (pe_cal c_kept_by (hr.mono (by decide)) rfl pass0 (pa_cons (pv 0) (pa_cons (pv 1) (pa_cons (pv 2) pa_nil)))))))), run_pure (N := n_kept_pairs) (fun ds k d hp => ?_) h⟩)
  obtain ⟨A, P, T, v, b, rfl, h, l6, hP, rfl, rfl⟩ := hp
  refine q_drop (d_call (k := .v) (d := .none) (a_cons (d_var rfl) (a_cons (d_var rfl) a_nil)) ⟨A, P, v, b, rfl, h.ser, l6, hP, rfl, rfl⟩) ?_
  refine q_drop (d_call (k := .v) (d := .none) (a_cons (d_call (k := .v) (d := .bool true) (a_cons (d_var rfl) (a_cons (d_var rfl) a_nil)) ⟨T, A, v, b, rfl, h.tab, rfl, by rw [h.right]⟩) (a_cons d_str a_nil)) ⟨_, rfl, rfl, rfl⟩) ?_
  exact s_ret (d_call (k := .v) (a_cons (d_var rfl) (a_cons (d_var rfl) (a_cons (d_var rfl) a_nil))) ⟨A, P, T, v, b, rfl, h, hP, rfl, rfl⟩) (.inr ⟨rfl, flatT _⟩) (.inl rfl)

theorem ok__law_stream {P : Program} {w : World} {K : PySem.W.Frag} {mg : Str → Option Value} {base : Heap} {f : Addr} {fd : FuncData} (F : Fun K "_law_stream" "_law_stream" s__law_stream f fd) (T : Txt mg) :
    FnOk P w K mg base CX0 1 f fd p__law_stream (sp__law_stream K) := by
  refine F.ok sc__law_stream (fun vs H Q E h => by obtain ⟨a, ns, rfl, _⟩ := h; rfl) (fun cdv A outer s H vs Q E hr h => ⟨_, (pss_one (ps_ret (pe_lst (pa_cons (pe_callTy (k_list (K := K) rfl) rfl T.b_list (by decide +kernel) (pa_cons (pv 0) pa_nil)) (pa_cons pe_int (pa_cons pe_int pa_nil)))))), ?_⟩)
  obtain ⟨a, ns, rfl, hS, hl, k⟩ := h
  refine ⟨_, rfl, a, _, rfl, .inl hS, fun l hl => ⟨(by show 3 ≤ sizeLine; decide), fun st hst => ?_⟩⟩
  have nls : l ≠ st := fun z => by rw [z, upd_same] at hst; cases hst
  have hs0 : H st = none := by rw [← upd_ne (H := H) (o := .lst (ns.map V.int)) nls.symm]; exact hst
  refine k st l _ (fun b o z => ?_) hs0 ⟨ns, 0, 0, upd_same, by rw [upd_ne nls, upd_same], nls, by decide⟩
  rw [upd_ne (ne_of_none z hs0), upd_ne (ne_of_none z hl)]
  exact z

theorem ok__law_next {P : Program} {w : World} {K : PySem.W.Frag} {mg : Str → Option Value} {base : Heap} {f : Addr} {fd : FuncData} (F : Fun K "_law_next" "_law_next" s__law_next f fd) (T : Txt mg) :
    FnOk P w K mg base CX0 1 f fd p__law_next (sp__law_next K) := by
  refine F.ok sc__law_next (fun vs H Q E h => spS_len h (by rintro ds k P ⟨m, rfl, _⟩; rfl)) (fun cdv A outer s H vs Q E hr h => ⟨_, (Evl.pss_cut (ps_if (pt_cmpR (k_eq (K := K) rfl (rUnits hr)) (pe_ix (k_ix (K := K) rfl) (pv 0) pe_int (fun _ _ => rfl)) pe_int (nomark _)) (pss_cons (ps_set (i := 2) sc__law_next.nd rfl (Or.inl rfl) (pe_ix (k_ix (K := K) rfl) (pv 0) pe_int (fun _ _ => rfl)))
      (pss_cons (ps_set (i := 3) sc__law_next.nd rfl (Or.inl rfl) (pe_op (k_add (K := K) rfl) pe_int (pv 2)))
      (Evl.pss_cut (ps_if (pt_cmpR op_lt (pv 2) (pe_callB (k_len (K := K) rfl) rfl T.b_len (by decide +kernel) (pa_cons (pe_ix (k_ix (K := K) rfl) (pv 0) pe_int (fun _ _ => rfl)) pa_nil)) (nomark _)) (pss_one (ps_set (i := 3) sc__law_next.nd rfl (Or.inl rfl) (pe_callB call_abs rfl T.b_abs (by decide +kernel) (pa_cons (pe_ix (k_ix (K := K) rfl) (pe_ix (k_ix (K := K) rfl) (pv 0) pe_int (fun _ _ => rfl)) (pv 2) (fun _ _ => rfl)) pa_nil)))) pss_nil)
      (Evl.pss_cut (ps_if (pt_cmpR op_lt (pv 3) (pe_op op_pow pe_int pe_int) (nomark _)) (pss_cons (ps_set (i := 3) sc__law_next.nd rfl (Or.inl rfl) (pe_op op_mod (pe_callTy call_int1 rfl T.b_int (by decide +kernel) (pa_cons (pe_op (k_add (K := K) rfl) (pe_op (k_add (K := K) rfl) (pe_op op_mulA (pv 3) pe_int) (pe_op op_mulA (pv 2) pe_int)) pe_int) pa_nil)) pe_int))
      (pss_one (ps_set (i := 3) sc__law_next.nd rfl (Or.inl rfl) (pe_op (k_add (K := K) rfl) (pe_op op_mulA (pe_op op_mod (pe_callTy call_int1 rfl T.b_int (by decide +kernel) (pa_cons (pe_op (k_add (K := K) rfl) (pe_op op_mulA (pv 3) pe_int) pe_int) pa_nil)) pe_int) pe_int) (pv 3))))) pss_nil)
      (pss_cons (ps_asg (pv 3) (pg_sub (pv 0) pe_int set_list))
      (pss_one (ps_asg (pe_op (k_add (K := K) rfl) (pv 2) pe_int) (pg_sub (pv 0) pe_int set_list)))))))) pss_nil)
      (pss_cons (ps_set (i := 4) sc__law_next.nd rfl (Or.inl rfl) (pe_op op_mod (pe_callTy call_int1 rfl T.b_int (by decide +kernel) (pa_cons (pe_ix (k_ix (K := K) rfl) (pv 0) pe_int (fun _ _ => rfl)) pa_nil)) (pv 1)))
      (pss_cons (ps_asg (pe_op op_fdiv (pe_ix (k_ix (K := K) rfl) (pv 0) pe_int (fun _ _ => rfl)) (pv 1)) (pg_sub (pv 0) pe_int set_list))
      (pss_one (ps_ret (pv 4)))))), ?_⟩)
  obtain ⟨st, l, vs', ds, kd, P', rfl, hst, hb, ⟨m, rfl, hm, hm2, rfl, rfl⟩, hq⟩ := h
  obtain ⟨mv, rfl, bm⟩ := hb.one
  have em := bm.int'
  subst em
  obtain ⟨ns, x, k, h1, h2, h3, h4⟩ := hst
  -- behind the first if the stream's cell is any int
  refine ⟨fun σ H1 => ∃ (a b c : Option V) (x k : Int), σ = [some (.ref st), some (.int m), a, b, c] ∧ H1 st = some (.lst [.ref l, .int x, .int k]) ∧ H1 l = some (.lst (ns.map V.int)) ∧ 0 ≤ k ∧ ∀ a o, a ≠ st → H a = some o → H1 a = some o, ?_, ?_⟩
  · refine ⟨_, rfl, .inl ⟨st, _, 1, .int x, rfl, rfl, .inl (.inl h1), rfl, .inl ⟨rfl, _, rfl, ?_⟩⟩⟩
    refine ite2 (fun _ => ?_) (fun _ => ⟨_, _, _, x, k, rfl, h1, h2, h4, fun _ _ _ z => z⟩)
    refine ⟨_, rfl, .inl ⟨st, _, 2, .int k, rfl, rfl, .inl (.inl h1), rfl, ?_⟩⟩
    refine ⟨_, rfl, .inl ⟨7, k, rfl, rfl, ?_⟩⟩
    refine ⟨fun σ H1 => H1 = H ∧ ∃ z : Int, σ = [some (.ref st), some (.int m), some (.int k), some (.int z), none], ?_, ?_⟩
    · refine ⟨_, rfl, _, rfl, .inl ⟨st, _, 0, .ref l, rfl, rfl, .inl (.inl h1), rfl, ⟨l, _, rfl, .inl (.inl (.inl h2)), k, _, rfl, rfl, _, rfl, ?_⟩⟩⟩
      refine ite2 (fun hk => ?_) (fun _ => ⟨rfl, _, rfl⟩)
      have hk' : k < (ns.length : Int) := by simpa using of_decide_eq_true hk
      obtain ⟨j, rfl⟩ := Int.eq_ofNat_of_zero_le h4
      have hj : j < ns.length := by omega
      have hat : atI (ns.map V.int) (j : Int) = some (.int ns[j]) := atI_nat (by simp [hj])
      exact ⟨_, rfl, .inl ⟨st, _, 0, .ref l, rfl, rfl, .inl (.inl h1), rfl, _, rfl, .inl ⟨l, _, (j : Int), _, rfl, rfl, .inl (.inl h2), hat, _, rfl, rfl, _, rfl⟩⟩⟩
    · rintro σ H1 ⟨rfl, z, rfl⟩
      refine ⟨fun σ H1' => H1' = H1 ∧ ∃ z : Int, σ = [some (.ref st), some (.int m), some (.int k), some (.int z), none], ?_, ?_⟩
      · refine ⟨_, rfl, 10, 18, rfl, rfl, ⟨by decide, by decide, by decide⟩, z, _, rfl, rfl, _, rfl, ?_⟩
        refine ite2 (fun _ => ?_) (fun _ => ⟨rfl, _, rfl⟩)
        refine ⟨_, rfl, .inl ⟨z, 48271, rfl, rfl, .inr ⟨by decide, by decide⟩, _, rfl, .inl ⟨k, 69621, rfl, rfl, .inr ⟨by decide, by decide⟩, .inl ⟨_, _, rfl, rfl, .inl ⟨_, _, rfl, rfl, .inl ⟨_, rfl, _, _, rfl, rfl, (by show (0 : Int) < 2147483647; decide), ?_⟩⟩⟩⟩⟩⟩
        refine ⟨_, rfl, .inl ⟨_, 16807, rfl, rfl, .inr ⟨by decide, by decide⟩, .inl ⟨_, _, rfl, rfl, .inl ⟨_, rfl, _, _, rfl, rfl, (by show (0 : Int) < 2147483647; decide), .inl ⟨_, 65537, rfl, rfl, .inr ⟨by decide, by decide⟩, _, rfl, .inl ⟨_, _, rfl, rfl, rfl, _, rfl⟩⟩⟩⟩⟩⟩
      · rintro σ H1' ⟨rfl, z, rfl⟩
        refine ⟨_, rfl, _, rfl, st, _, 1, 1, rfl, rfl, h1, rfl, ?_⟩
        refine ⟨_, rfl, .inl ⟨k, 1, rfl, rfl, _, rfl, st, _, 2, 2, rfl, rfl, upd_same, rfl, ?_⟩⟩
        refine ⟨_, _, _, z, k + 1, rfl, upd_same, by rw [upd_ne h3, upd_ne h3]; exact h2, by omega, fun a o na ha => by rw [upd_ne na, upd_ne na]; exact ha⟩
  · rintro σ H1 ⟨a, b, c, x, k, rfl, g1, g2, g4, g5⟩
    refine ⟨_, rfl, .inl ⟨st, _, 1, .int x, rfl, rfl, .inl (.inl g1), rfl, .inl ⟨x, rfl, _, rfl, x, m, rfl, rfl, hm, ?_⟩⟩⟩
    refine ⟨_, rfl, .inl ⟨st, _, 1, .int x, rfl, rfl, .inl (.inl g1), rfl, _, rfl, x, m, rfl, rfl, ⟨hm, hm2⟩, _, rfl, st, _, 1, 1, rfl, rfl, g1, rfl, ?_⟩⟩
    refine ⟨_, rfl, hq _ (.int (x % m)) _ ⟨x % m, rfl, Int.emod_nonneg _ (by omega), Int.emod_lt_of_pos _ hm⟩ ⟨fun a o na ha => ?_, fun _ st' l' e => ?_⟩ ⟨rfl, .int _⟩⟩
    · have : a ≠ st := na st l rfl
      rw [upd_ne this]
      exact g5 a o this ha
    · cases e
      exact Str1.put g2 h3 g4

theorem ok__law_is_integer {P : Program} {w : World} {K : PySem.W.Frag} {mg : Str → Option Value} {base : Heap} {f : Addr} {fd : FuncData} (F : Fun K "_law_is_integer" "_law_is_integer" s__law_is_integer f fd) (T : Txt mg) :
    FnOk P w K mg base CX0 1 f fd p__law_is_integer (sp__law_is_integer K) := by
  refine F.ok sc__law_is_integer (fun vs H Q E h => spD_len h (by rintro ds k d ⟨x, rfl, _⟩; rfl)) (fun cdv A outer s H vs Q E hr h => ⟨_, (pss_one (ps_ret (pe_and (pe_callB (k_isi (K := K) rfl) rfl T.b_isinstance (by decide +kernel) (pa_cons (pv 0) (pa_cons (pe_ty (n := "int") rfl T.b_int (by decide +kernel)) pa_nil))) (pe_one (pe_not (pe_callB (k_isi (K := K) rfl) rfl T.b_isinstance (by decide +kernel) (pa_cons (pv 0) (pa_cons (pe_ty (n := "bool") rfl T.b_bool (by decide +kernel)) pa_nil)))))))), run_pure (N := n__law_is_integer) (fun ds k d hp => ?_) h⟩)
  obtain ⟨x, rfl, rfl, rfl⟩ := hp
  refine s_ret ((d_andV (e_isi (d_var rfl) (kit_int x)) fun _ => d_notV (e_isi (d_var rfl) (kit_bool x))).to ?_) (.inr ⟨rfl, rfl⟩) (.inl rfl)
  cases x <;> rfl

theorem ok_eq {P : Program} {w : World} {K : PySem.W.Frag} {mg : Str → Option Value} {base : Heap} {f : Addr} {fd : FuncData} (F : Fun K "_law_equal" "_law_equal" s__law_equal f fd) (T : Txt mg) (c_int : Cal P w K mg base CX0 1 "_law_is_integer" p__law_is_integer (sp__law_is_integer K)) (n : Nat)
    (c_eq : Cal P w K mg base CX0 (n + 1) "_law_equal" p__law_equal (spEq K n)) : FnOk P w K mg base CX0 (n + 2) f fd p__law_equal (spEq K (n + 1)) := by
  refine F.ok sc__law_equal (fun vs H Q E h => spD_len (E := E) h (by rintro ds k d ⟨x, rfl, _⟩; rfl)) (fun cdv A outer s H vs Q E hr h => ⟨_, (pss_cons (ps_if (pt_cmpR op_isN (pv 1) pe_non (nomark _)) (pss_one (ps_ret (pe_cmpR op_isN (pv 0) pe_non (nomark _)))) pss_nil)
      (pss_cons (ps_if (pt_val (pe_callB (k_isi (K := K) rfl) rfl T.b_isinstance (by decide +kernel) (pa_cons (pv 1) (pa_cons (pe_ty (n := "bool") rfl T.b_bool (by decide +kernel)) pa_nil)))) (pss_one (ps_ret (pe_and (pe_callB (k_isi (K := K) rfl) rfl T.b_isinstance (by decide +kernel) (pa_cons (pv 0) (pa_cons (pe_ty (n := "bool") rfl T.b_bool (by decide +kernel)) pa_nil))) (pe_one (pe_cmpR (k_eq (K := K) rfl (rUnits hr)) (pv 0) (pv 1) (nomark _)))))) pss_nil)
      (pss_cons (ps_if (pt_val (pe_callB (k_isi (K := K) rfl) rfl T.b_isinstance (by decide +kernel) (pa_cons (pv 1) (pa_cons (pe_ty (n := "int") rfl T.b_int (by decide +kernel)) pa_nil)))) (pss_one (ps_ret (pe_and (pe_cal c_int (hr.mono (by omega)) rfl pass0 (pa_cons (pv 0) pa_nil)) (pe_one (pe_cmpR (k_eq (K := K) rfl (rUnits hr)) (pv 0) (pv 1) (nomark _)))))) pss_nil)
      (pss_cons (ps_if (pt_val (pe_callB (k_isi (K := K) rfl) rfl T.b_isinstance (by decide +kernel) (pa_cons (pv 1) (pa_cons (pe_ty (n := "str") rfl T.b_str (by decide +kernel)) pa_nil)))) (pss_one (ps_ret (pe_and (pe_callB (k_isi (K := K) rfl) rfl T.b_isinstance (by decide +kernel) (pa_cons (pv 0) (pa_cons (pe_ty (n := "str") rfl T.b_str (by decide +kernel)) pa_nil))) (pe_one (pe_cmpR (k_eq (K := K) rfl (rUnits hr)) (pv 0) (pv 1) (nomark _)))))) pss_nil)
      (pss_cons (ps_if (PW.pt (pw_and (pt_val (pe_callB (k_isi (K := K) rfl) rfl T.b_isinstance (by decide +kernel) (pa_cons (pv 1) (pa_cons (pe_ty (n := "tuple") rfl T.b_tuple (by decide +kernel)) pa_nil)))) (pw_and1 (pt_not (pt_val (pe_callB (k_isi (K := K) rfl) rfl T.b_isinstance (by decide +kernel) (pa_cons (pv 0) (pa_cons (pe_ty (n := "tuple") rfl T.b_tuple (by decide +kernel)) pa_nil)))))))) (pss_one (ps_ret pe_bl)) pss_nil)
      (pss_cons (ps_if (PW.pt (pw_and (pt_val (pe_callB (k_isi (K := K) rfl) rfl T.b_isinstance (by decide +kernel) (pa_cons (pv 1) (pa_cons (pe_ty (n := "list") rfl T.b_list (by decide +kernel)) pa_nil)))) (pw_and1 (pt_not (pt_val (pe_callB (k_isi (K := K) rfl) rfl T.b_isinstance (by decide +kernel) (pa_cons (pv 0) (pa_cons (pe_ty (n := "list") rfl T.b_list (by decide +kernel)) pa_nil)))))))) (pss_one (ps_ret pe_bl)) pss_nil)
      (pss_cons (ps_if (pt_cmpR (k_ne (K := K) rfl (rUnits hr)) (pe_callB (k_len (K := K) rfl) rfl T.b_len (by decide +kernel) (pa_cons (pv 0) pa_nil)) (pe_callB (k_len (K := K) rfl) rfl T.b_len (by decide +kernel) (pa_cons (pv 1) pa_nil)) (nomark _)) (pss_one (ps_ret pe_bl)) pss_nil)
      (pss_one (ps_ret (pe_callB (k_all (K := K) rfl rfl) rfl T.b_all (by decide +kernel) (pa_cons (pe_lc rfl sc__law_equal.nd (pi_range1 rfl T.b_range (pa_cons (pe_callB (k_len (K := K) rfl) rfl T.b_len (by decide +kernel) (pa_cons (pv 1) pa_nil)) pa_nil)) (blkOk_by (own := [("at", 2)]) (N := n__law_equal) (sc := defScope s__law_equal) (by decide +kernel)) (fun _ _ _ _ _ => by exact (pg_name (i := 2) sc__law_equal.nd rfl (Or.inl rfl))) (fun _ _ _ _ _ => by exact pts_nil) (fun _ _ _ _ _ => by exact (pe_cal c_eq hr rfl pass0 (pa_cons (pe_ix (k_ix (K := K) rfl) (pv 0) (pv 2) (fun _ _ => rfl)) (pa_cons (pe_ix (k_ix (K := K) rfl) (pv 1) (pv 2) (fun _ _ => rfl)) pa_nil))))) pa_nil))))))))))), run_pure (E := E) (N := n__law_equal) (fun ds k d hp => ?_) h⟩)
  obtain ⟨x, rfl, hx, rfl, rfl⟩ := hp
  have flatB : flatD (.bool true) = true := rfl
  have isN : ∀ (a : Bool), isNoneD x = a → EvT (pc K) (tTest (tOp (fun x y H Q => y = .non ∧ Q (.bl (decide (x = .non))) H) (tVar 1) (tC .non))) (argsG [x, x] n__law_equal.length) a := fun a h => (t_test (d_isN (d_var rfl))).to h
  cases hx with
  | non => exact q_if (isN true rfl) (fun _ => q_ret ((d_isN (d_var (d := .none) rfl)).to rfl) (.inr ⟨rfl, flatB⟩) (.inl rfl)) fun e => nomatch e
  | bl b =>
    refine q_no (isN false rfl) (q_if ((t_B (e_isi (d_var rfl) (kit_bool (.bool b)))).to (b := true) rfl) (fun _ => ?_) fun e => nomatch e)
    exact q_ret ((d_andV (b := true) (e_isi (d_var rfl) (kit_bool (.bool b))) fun _ => e_eqS (d_var rfl) (d_var rfl) rfl rfl rfl (decide_eq_true rfl)).to rfl) (.inr ⟨rfl, flatB⟩) (.inl rfl)
  | int i =>
    refine q_no (isN false rfl) (q_no ((t_B (e_isi (d_var rfl) (kit_bool (.int i)))).to rfl) (q_if ((t_B (e_isi (d_var rfl) (kit_int (.int i)))).to (b := true) rfl) (fun _ => ?_) fun e => nomatch e))
    exact q_ret ((d_andV (b := true) (d_call (a_cons (d_var rfl) a_nil) ⟨.int i, rfl, rfl, rfl⟩) fun _ => e_eqS (d_var rfl) (d_var rfl) rfl rfl rfl (decide_eq_true rfl)).to rfl) (.inr ⟨rfl, flatB⟩) (.inl rfl)
  | str z =>
    refine q_no (isN false rfl) (q_no ((t_B (e_isi (d_var rfl) (kit_bool (.str z)))).to rfl) (q_no ((t_B (e_isi (d_var rfl) (kit_int (.str z)))).to rfl) (q_if ((t_B (e_isi (d_var rfl) (kit_str (.str z)))).to (b := true) rfl) (fun _ => ?_) fun e => nomatch e)))
    exact q_ret ((d_andV (b := true) (e_isi (d_var rfl) (kit_str (.str z))) fun _ => e_eqS (d_var rfl) (d_var rfl) rfl rfl rfl (decide_eq_true rfl)).to rfl) (.inr ⟨rfl, flatB⟩) (.inl rfl)
  | @lst m xs hl hxs =>
    refine q_no (isN false rfl) (q_no ((t_B (e_isi (d_var rfl) (kit_bool (.list xs)))).to rfl) (q_no ((t_B (e_isi (d_var rfl) (kit_int (.list xs)))).to rfl) (q_no ((t_B (e_isi (d_var rfl) (kit_str (.list xs)))).to rfl) ?_)))
    refine q_no ((t_and (b := false) ((t_B (e_isi (d_var rfl) (kit_tuple (.list xs)))).to (b := false) rfl) fun e => nomatch e).to rfl) ?_
    refine q_no ((t_and (b := false) ((t_B (e_isi (d_var rfl) (kit_list (.list xs)))).to (b := true) rfl) fun _ => (t_not ((t_B (e_isi (d_var rfl) (kit_list (.list xs)))).to (b := true) rfl)).to rfl).to rfl) ?_
    refine q_no ((t_test (e_neI (d_lenL (d_var rfl)) (d_lenL (d_var rfl)))).to (by simp)) ?_
    refine s_ret ((d_all (d_lcB (fun _ => true) (i_rng1 (a_cons (d_lenL (d_var rfl)) a_nil) (by omega) (by omega)) (by simp [upI]; omega) fun i hi => ?_)).to (by simp)) (.inr ⟨rfl, flatB⟩) (.inl rfl)
    obtain ⟨j, hj, rfl⟩ := List.mem_map.mp hi
    have hj' : j < xs.length := by simpa using hj
    have hg : xs[j]? = some xs[j] := List.getElem?_eq_getElem hj'
    exact ⟨_, _, g_name, fun j hj => hj, _, d_call (a_cons (e_ixLv (d_var rfl) (d_var rfl) (atI_i hg)) (a_cons (e_ixLv (d_var rfl) (d_var rfl) (atI_i hg)) a_nil)) ⟨_, rfl, hxs _ (List.getElem_mem hj'), rfl, rfl⟩⟩
  | @tup m xs hl hxs =>
    refine q_no (isN false rfl) (q_no ((t_B (e_isi (d_var rfl) (kit_bool (.tuple xs)))).to rfl) (q_no ((t_B (e_isi (d_var rfl) (kit_int (.tuple xs)))).to rfl) (q_no ((t_B (e_isi (d_var rfl) (kit_str (.tuple xs)))).to rfl) ?_)))
    refine q_no ((t_and (b := false) ((t_B (e_isi (d_var rfl) (kit_tuple (.tuple xs)))).to (b := true) rfl) fun _ => (t_not ((t_B (e_isi (d_var rfl) (kit_tuple (.tuple xs)))).to (b := true) rfl)).to rfl).to rfl) ?_
    refine q_no ((t_and (b := false) ((t_B (e_isi (d_var rfl) (kit_list (.tuple xs)))).to (b := false) rfl) fun e => nomatch e).to rfl) ?_
    refine q_no ((t_test (e_neI (d_lenT (d_var rfl)) (d_lenT (d_var rfl)))).to (by simp)) ?_
    refine s_ret ((d_all (d_lcB (fun _ => true) (i_rng1 (a_cons (d_lenT (d_var rfl)) a_nil) (by omega) (by omega)) (by simp [upI]; omega) fun i hi => ?_)).to (by simp)) (.inr ⟨rfl, flatB⟩) (.inl rfl)
    obtain ⟨j, hj, rfl⟩ := List.mem_map.mp hi
    have hj' : j < xs.length := by simpa using hj
    have hg : xs[j]? = some xs[j] := List.getElem?_eq_getElem hj'
    exact ⟨_, _, g_name, fun j hj => hj, _, d_call (a_cons (e_ixTv (d_var rfl) (d_var rfl) (atI_i hg)) (a_cons (e_ixTv (d_var rfl) (d_var rfl) (atI_i hg)) a_nil)) ⟨_, rfl, hxs _ (List.getElem_mem hj'), rfl, rfl⟩⟩
theorem ok__law_equal {P : Program} {w : World} {K : PySem.W.Frag} {mg : Str → Option Value} {base : Heap} {f : Addr} {fd : FuncData} (F : Fun K "_law_equal" "_law_equal" s__law_equal f fd) (T : Txt mg) (c_int : Cal P w K mg base CX0 1 "_law_is_integer" p__law_is_integer (sp__law_is_integer K))
    (mgf : mg "_law_equal" = some (.ref f)) (bd : Binds K fd p__law_equal []) : FnOk P w K mg base CX0 10 f fd p__law_equal (sp__law_equal K) := by
  have all : ∀ n, FnOk P w K mg base CX0 (n + 1) f fd p__law_equal (spEq K n) := by
    intro n
    induction n with
    | zero => exact ⟨fun _ _ _ _ h => h.elim, fun _ _ _ _ _ _ _ _ _ _ _ _ _ h => h.elim⟩
    | succ n ih => exact ok_eq F T c_int n ⟨f, fd, ih, mgf, F.kp, bd⟩
  exact (all 8).mono (by decide)

theorem ok__law_allocation {P : Program} {w : World} {K : PySem.W.Frag} {mg : Str → Option Value} {base : Heap} {f : Addr} {fd : FuncData} (F : Fun K "_law_allocation" "_law_allocation" s__law_allocation f fd) (T : Txt mg) (c__law_next : Cal P w K mg base CX0 1 "_law_next" p__law_next (sp__law_next K)) :
    FnOk P w K mg base CX0 2 f fd p__law_allocation (sp__law_allocation K) := by
  refine F.ok sc__law_allocation (fun vs H Q E h => spS_len h (by rintro ds k P ⟨v, b, rfl, _⟩; rfl)) (fun cdv A outer s H vs Q E hr h => ⟨_, (pss_cons (ps_setLc (i := 3) rfl sc__law_allocation.nd rfl rfl (sw_true rfl rfl rfl (by decide +kernel)) (pi_range1 rfl T.b_range (pa_cons (pv 1) pa_nil)) (blkOk_by (own := [("variant", 4)]) (N := n__law_allocation) (sc := defScope s__law_allocation) (by decide +kernel)) (fun _ _ _ _ _ => by exact (pg_name (i := 4) sc__law_allocation.nd rfl (Or.inl rfl))) (fun _ _ _ _ _ => by exact pts_nil) (fun _ _ _ _ _ => by exact pe_int))
      (pss_cons (ps_for PassesOwn.never rfl (pi_range1 rfl T.b_range (pa_cons (pv 2) pa_nil)) (pg_name (i := 5) sc__law_allocation.nd rfl (Or.inl rfl)) (pss_cons (ps_set (i := 4) sc__law_allocation.nd rfl (Or.inl rfl) (pe_cal c__law_next (hr.mono (by decide)) rfl pass0 (pa_cons (pv 0) (pa_cons (pv 1) pa_nil))))
      (pss_one (ps_asg (pe_op (k_add (K := K) rfl) (pe_ix (k_ix (K := K) rfl) (pv 3) (pv 4) (fun _ _ => rfl)) pe_int) (pg_sub (pv 3) (pv 4) set_list)))))
      (pss_one (ps_ret (pe_callTy (k_tuple (K := K) rfl) rfl T.b_tuple (by decide +kernel) (pa_cons (pv 3) pa_nil)))))), run_str (N := n__law_allocation) (fun st l ds k P' hp => ?_) h⟩)
  obtain ⟨v, b, rfl, h1, h2, h3, h4, rfl, rfl⟩ := hp
  refine q_asgO (d_lcI (fun _ => 0) (i_rng1 (a_cons (d_var rfl) a_nil) (by omega) (by omega)) (by simp [upI]; omega) fun i _ => ⟨_, _, g_name, fun j hj => hj, .v, d_int⟩) ?_
  refine q_for (i_rng1 (a_cons (d_var rfl) a_nil) (by omega) (by omega))
    (fun n Γ1 => ∃ ns t4 t5, Γ1 = [some (.r (.ref st)), some (.v (.int v)), some (.v (.int b)), some (.o (.list (ns.map .int))), t4, t5] ∧ Alc ns v n) ⟨_, _, _, rfl, alc0 (by omega)⟩ (fun n a Γ1 hn' hI => ?_) (fun Γ1 hI => ?_)
  · obtain ⟨ns, t4, t5, rfl, ha⟩ := hI
    obtain ⟨i, rfl, hi1, hi2⟩ := upI_get hn'
    refine ⟨_, _, g_name, q_asgN _ (n_call (st := st) (l := l) rfl rfl (a_cons (d_var rfl) a_nil) ⟨v, rfl, by omega, by omega, rfl, rfl⟩) ?_⟩
    rintro d ⟨x, rfl, hx0, hx1⟩
    obtain ⟨m, rfl⟩ := Int.eq_ofNat_of_zero_le hx0
    have hm : m < ns.length := by have := ha.len; omega
    have hg : (ns.map PyData.int)[m]? = some (.int (ns.getD m 0)) := by simp [hm]
    exact s_setII rfl (e_add (e_ixL (d_varO rfl) (d_var rfl) (atI_nat hg) rfl) d_int) (d_var rfl) rfl hm (.inl ⟨_, .inl rfl, ns.set m (ns.getD m 0 + 1), _, _, rfl, ha.one hm⟩)
  · obtain ⟨ns, t4, t5, rfl, ha⟩ := hI
    have hb : (b.toNat : Int) = b := by omega
    refine s_ret (d_tuple (d_varO rfl) (flatAll_ints _)) (.inr ⟨rfl, flatT _⟩) ⟨_, rfl, ns, rfl, ?_⟩
    simpa [upI, hb] using ha

theorem ok__law_near {P : Program} {w : World} {K : PySem.W.Frag} {mg : Str → Option Value} {base : Heap} {f : Addr} {fd : FuncData} (F : Fun K "_law_near" "_law_near" s__law_near f fd) (T : Txt mg) (c__law_next : Cal P w K mg base CX0 1 "_law_next" p__law_next (sp__law_next K)) :
    FnOk P w K mg base CX0 2 f fd p__law_near (sp__law_nearA K) := by
  refine F.ok sc__law_near (fun vs H Q E h => spS_len h (by rintro ds k P ⟨ns, v, b, rfl, _⟩; rfl)) (fun cdv A outer s H vs Q E hr h => ⟨_, (pss_cons (ps_set (i := 2) sc__law_near.nd rfl (Or.inl rfl) (pe_callTy (k_list (K := K) rfl) rfl T.b_list (by decide +kernel) (pa_cons (pv 1) pa_nil)))
      (pss_cons (ps_for PassesOwn.never rfl (pi_range1 rfl T.b_range (pa_cons (pe_cal c__law_next (hr.mono (by decide)) rfl pass0 (pa_cons (pv 0) (pa_cons pe_int pa_nil))) pa_nil)) (pg_name (i := 3) sc__law_near.nd rfl (Or.inl rfl)) (pss_cons (ps_set (i := 4) sc__law_near.nd rfl (Or.inl rfl) (pe_cal c__law_next (hr.mono (by decide)) rfl pass0 (pa_cons (pv 0) (pa_cons (pe_callB (k_len (K := K) rfl) rfl T.b_len (by decide +kernel) (pa_cons (pv 2) pa_nil)) pa_nil))))
      (pss_cons (ps_set (i := 5) sc__law_near.nd rfl (Or.inl rfl) (pe_cal c__law_next (hr.mono (by decide)) rfl pass0 (pa_cons (pv 0) (pa_cons (pe_callB (k_len (K := K) rfl) rfl T.b_len (by decide +kernel) (pa_cons (pv 2) pa_nil)) pa_nil))))
      (pss_one (ps_if (pt_cmpR op_gt (pe_ix (k_ix (K := K) rfl) (pv 2) (pv 4) (fun _ _ => rfl)) pe_int (nomark _)) (pss_cons (ps_asg (pe_op op_sub (pe_ix (k_ix (K := K) rfl) (pv 2) (pv 4) (fun _ _ => rfl)) pe_int) (pg_sub (pv 2) (pv 4) set_list))
      (pss_one (ps_asg (pe_op (k_add (K := K) rfl) (pe_ix (k_ix (K := K) rfl) (pv 2) (pv 5) (fun _ _ => rfl)) pe_int) (pg_sub (pv 2) (pv 5) set_list)))) pss_nil)))))
      (pss_one (ps_ret (pe_callTy (k_tuple (K := K) rfl) rfl T.b_tuple (by decide +kernel) (pa_cons (pv 2) pa_nil)))))), run_str (N := n__law_near) (fun st l ds k P' hp => ?_) h⟩)
  obtain ⟨ns, v, b, rfl, hn, h1, h2, rfl, rfl⟩ := hp
  have hl := hn.len
  refine q_asgO (e_listT (d_var rfl) (flatAll_ints _)) ?_
  refine q_forRN (Q := fun n => 0 ≤ n ∧ n < 3) (n_call (st := st) (l := l) rfl rfl (a_cons d_int a_nil) ⟨3, rfl, by decide, by decide, rfl, rfl⟩) fun m hm => ?_
  refine q_for (i_rng1 (a_cons d_int a_nil) (by omega) (by omega))
    (fun n Γ1 => ∃ ms t3 t4 t5, Γ1 = [some (.r (.ref st)), some (.v (.tuple (ns.map .int))), some (.o (.list (ms.map .int))), t3, t4, t5] ∧ Alc ms v b) ⟨ns, _, _, _, rfl, hn⟩ (fun n a Γ1 hn' hI => ?_) (fun Γ1 hI => ?_)
  · obtain ⟨ms, t3, t4, t5, rfl, ha⟩ := hI
    have hl2 := ha.len
    obtain ⟨i, rfl, hi1, hi2⟩ := upI_get hn'
    refine ⟨_, _, g_name, q_asgN _ (n_call (st := st) (l := l) rfl rfl (a_cons (d_lenL (d_varO rfl)) a_nil) ⟨_, rfl, by rw [List.length_map]; omega, by rw [List.length_map]; omega, rfl, rfl⟩) ?_⟩
    rintro d ⟨x, rfl, hx0, hx1⟩
    refine q_asgN _ (n_call (st := st) (l := l) rfl rfl (a_cons (d_lenL (d_varO rfl)) a_nil) ⟨_, rfl, by rw [List.length_map]; omega, by rw [List.length_map]; omega, rfl, rfl⟩) ?_
    rintro d ⟨y, rfl, hy0, hy1⟩
    rw [List.length_map] at hx1 hy1
    obtain ⟨x, rfl⟩ := Int.eq_ofNat_of_zero_le hx0
    obtain ⟨y, rfl⟩ := Int.eq_ofNat_of_zero_le hy0
    have lx : x < ms.length := by omega
    have ly : y < ms.length := by omega
    have ly2 : y < (ms.set x (ms.getD x 0 - 1)).length := by simpa using ly
    refine s_if (t_test (d_gt (e_ixL (d_varO rfl) (d_var rfl) (at_ints lx) rfl) d_int)) (fun w => ?_) fun w => s_next (.inl ⟨_, .inl rfl, _, _, _, _, rfl, ha⟩)
    have w' := of_decide_eq_true w
    refine q_setII rfl (d_sub (e_ixL (d_varO rfl) (d_var rfl) (at_ints lx) rfl) d_int) (d_var rfl) rfl lx ?_
    exact s_setII rfl (e_add (e_ixL (d_varO rfl) (d_var rfl) (at_ints ly2) rfl) d_int) (d_var rfl) rfl ly2 (.inl ⟨_, .inl rfl, _, _, _, _, rfl, ha.mv lx ly w'⟩)
  · obtain ⟨ms, t3, t4, t5, rfl, ha⟩ := hI
    exact s_ret (d_tuple (d_varO rfl) (flatAll_ints _)) (.inr ⟨rfl, flatT _⟩) ⟨_, rfl, ms, rfl, ha⟩

theorem ok__law_series {P : Program} {w : World} {K : PySem.W.Frag} {mg : Str → Option Value} {base : Heap} {f : Addr} {fd : FuncData} (F : Fun K "_law_series" "_law_series" s__law_series f fd) (T : Txt mg) (c__law_allocation : Cal P w K mg base CX0 2 "_law_allocation" p__law_allocation (sp__law_allocation K)) (c__law_next : Cal P w K mg base CX0 1 "_law_next" p__law_next (sp__law_next K)) (c__law_near : Cal P w K mg base CX0 2 "_law_near" p__law_near (sp__law_nearA K)) :
    FnOk P w K mg base CX0 3 f fd p__law_series (sp__law_seriesE K) := by
  refine F.ok sc__law_series (fun vs H Q E h => spS_len h (by rintro ds k P ⟨v, b, n, rfl, _⟩; rfl)) (fun cdv A outer s H vs Q E hr h => ⟨_, (pss_cons (ps_set (i := 4) sc__law_series.nd rfl (Or.inl rfl) (pe_lst (pa_cons (pe_cal c__law_allocation (hr.mono (by decide)) rfl pass0 (pa_cons (pv 0) (pa_cons (pv 1) (pa_cons (pv 2) pa_nil)))) pa_nil)))
      (pss_cons (ps_for PassesOwn.never rfl (pi_range1 rfl T.b_range (pa_cons (pe_op op_sub (pv 3) pe_int) pa_nil)) (pg_name (i := 5) sc__law_series.nd rfl (Or.inl rfl)) (pss_one (ps_if (pt_cmpR (k_eq (K := K) rfl (rUnits hr)) (pe_cal c__law_next (hr.mono (by decide)) rfl pass0 (pa_cons (pv 0) (pa_cons pe_int pa_nil))) pe_int (nomark _)) (pss_one (ps_expr (k_bm (K := K) rfl PySem.F.plainAttrs_list PySem.F.slot_list_append PySem.F.type_list_append mt_append (pv 4) (pa_cons (pe_cal c__law_near (hr.mono (by decide)) rfl pass0 (pa_cons (pv 0) (pa_cons (pe_ix (k_ix (K := K) rfl) (pv 4) (pe_cal c__law_next (hr.mono (by decide)) rfl pass0 (pa_cons (pv 0) (pa_cons (pe_callB (k_len (K := K) rfl) rfl T.b_len (by decide +kernel) (pa_cons (pv 4) pa_nil)) pa_nil))) (fun _ _ => rfl)) pa_nil))) pa_nil)))) (pss_one (ps_expr (k_bm (K := K) rfl PySem.F.plainAttrs_list PySem.F.slot_list_append PySem.F.type_list_append mt_append (pv 4) (pa_cons (pe_cal c__law_allocation (hr.mono (by decide)) rfl pass0 (pa_cons (pv 0) (pa_cons (pv 1) (pa_cons (pv 2) pa_nil)))) pa_nil)))))))
      (pss_one (ps_ret (pe_callTy (k_tuple (K := K) rfl) rfl T.b_tuple (by decide +kernel) (pa_cons (pv 4) pa_nil)))))), run_str (N := n__law_series) (fun st l ds k P' hp => ?_) h⟩)
  obtain ⟨v, b, n, rfl, v1, v5, b0, b20, n1, n10, rfl, rfl⟩ := hp
  refine q_asgNO _ (n_lst1 (n_call (st := st) (l := l) rfl rfl (a_cons (d_var rfl) (a_cons (d_var rfl) a_nil)) ⟨v, b, rfl, v1, by omega, b0, by omega, rfl, rfl⟩) (by rintro d ⟨ns, rfl, _⟩; exact flatT ns)) ?_
  rintro d ⟨x, rfl, ns, rfl, hns⟩
  refine q_for (i_rng1 (n := n - 1) (a_cons (d_sub (d_var rfl) d_int) a_nil) (by omega) (by omega))
    (fun m Γ1 => ∃ (B : List (List Int)) (t5 : Option Rs), Γ1 = [some (.r (.ref st)), some (.v (.int v)), some (.v (.int b)), some (.v (.int n)), some (.o (.list (B.map tupD))), t5] ∧ B.length = m + 1 ∧ ∀ a ∈ B, Alc a v b) ⟨[ns], _, rfl, rfl, by simpa using hns⟩ (fun m a Γ1 hn' hI => ?_) (fun Γ1 hI => ?_)
  · obtain ⟨B, t5, rfl, hB, hA⟩ := hI
    obtain ⟨hm, rfl⟩ := upI_at hn'
    have add : ∀ {r : List Int}, Alc r v b → ∃ (B' : List (List Int)) (t5 : Option Rs), [some (Rs.r (.ref st)), some (.v (.int v)), some (.v (.int b)), some (.v (.int n)), some (.o (.list (B.map tupD ++ [.tuple (r.map .int)]))), some (.v (.int (m : Int)))] = [some (.r (.ref st)), some (.v (.int v)), some (.v (.int b)), some (.v (.int n)), some (.o (.list (B'.map tupD))), t5] ∧ B'.length = m + 1 + 1 ∧ ∀ a ∈ B', Alc a v b := fun {r} hr => ⟨B ++ [r], _, by rw [List.map_append]; rfl, by simp [hB], fun a ha => by
      rcases List.mem_append.mp ha with w | w
      · exact hA a w
      · rw [List.mem_singleton.mp w]; exact hr⟩
    have fl : ∀ d : PyData, (∃ ms : List Int, d = .tuple (ms.map .int) ∧ Alc ms v b) → flatD d = true := by rintro d ⟨ms, rfl, _⟩; exact flatT ms
    refine ⟨_, _, g_name, s_ifN (tn_eq (n_call (st := st) (l := l) rfl rfl (a_cons d_int a_nil) ⟨2, rfl, by decide, by decide, rfl, rfl⟩) (d_int.sm (Q := fun m => m = 1) rfl)) ?_ ?_⟩
    · refine s_appN (k := .v) (Pd := fun d => ∃ ms : List Int, d = .tuple (ms.map .int) ∧ Alc ms v b) rfl (n_callN (st := st) (l := l) (Pa := fun d => ∃ ms : List Int, d = .tuple (ms.map .int) ∧ Alc ms v b) rfl rfl (n_ixL (d_varO rfl).n (n_call (st := st) (l := l) rfl rfl (a_cons (d_lenL (d_varO rfl)) a_nil) ⟨_, rfl, by rw [List.length_map]; omega, by rw [List.length_map]; omega, rfl, rfl⟩) ?_) ?_) fl (by simp; omega) ?_
      · rintro x i rfl ⟨hi0, hi1⟩
        rw [List.length_map] at hi1
        obtain ⟨i, rfl⟩ := Int.eq_ofNat_of_zero_le hi0
        have li : i < B.length := by omega
        have : B.getD i [] ∈ B := by rw [List.getD_eq_getElem?_getD, List.getElem?_eq_getElem li]; exact List.getElem_mem li
        exact ⟨_, _, rfl, at_tup li, flatT _, _, rfl, hA _ this⟩
      · rintro x ⟨ms, rfl, hm⟩
        exact ⟨ms, v, b, rfl, hm, v1, v5, rfl, rfl⟩
      · rintro d ⟨ms, rfl, hm⟩
        exact .inl ⟨_, .inl rfl, add hm⟩
    · refine s_appN (k := .v) (Pd := fun d => ∃ ms : List Int, d = .tuple (ms.map .int) ∧ Alc ms v b) rfl (n_call (st := st) (l := l) rfl rfl (a_cons (d_var rfl) (a_cons (d_var rfl) a_nil)) ⟨v, b, rfl, v1, by omega, b0, by omega, rfl, rfl⟩) fl (by simp; omega) ?_
      rintro d ⟨ms, rfl, hm⟩
      exact .inl ⟨_, .inl rfl, add hm⟩
  · obtain ⟨B, t5, rfl, hB, hA⟩ := hI
    refine s_ret (d_tuple (d_varO rfl) (fl_rows B)) (.inr ⟨rfl, fl_rows B⟩) ⟨_, rfl, B, rfl, ⟨by omega, ?_, hA, v1, v5, b20⟩, ?_⟩
    · rw [hB]
      simp [upI]
      omega
    · rw [hB]
      simp [upI]
      omega

theorem ok__law_sorted {P : Program} {w : World} {K : PySem.W.Frag} {mg : Str → Option Value} {base : Heap} {f : Addr} {fd : FuncData} (F : Fun K "_law_sorted" "_law_sorted" s__law_sorted f fd) (T : Txt mg) :
    FnOk P w K mg base CX0 1 f fd p__law_sorted (sp__law_sortedR K) := by
  refine F.ok sc__law_sorted (fun vs H Q E h => spD_len h (by rintro ds k d ⟨ns, v, b, rfl, _⟩; rfl)) (fun cdv A outer s H vs Q E hr h => ⟨_, (pss_cons (ps_set (i := 1) sc__law_sorted.nd rfl (Or.inl rfl) (pe_lst pa_nil))
      (pss_cons (ps_for PassesOwn.never rfl (pi_range1 rfl T.b_range (pa_cons (pe_callB (k_len (K := K) rfl) rfl T.b_len (by decide +kernel) (pa_cons (pv 0) pa_nil)) pa_nil)) (pg_name (i := 2) sc__law_sorted.nd rfl (Or.inr rfl)) (pss_one (ps_set (i := 1) sc__law_sorted.nd rfl (Or.inl rfl) (pe_op (k_add (K := K) rfl) (pv 1) (pe_lc rfl sc__law_sorted.nd (pi_range1 rfl T.b_range (pa_cons (pe_ix (k_ix (K := K) rfl) (pv 0) (pv 2) (fun _ _ => rfl)) pa_nil)) (blkOk_by (own := [("bucket", 3)]) (N := n__law_sorted) (sc := defScope s__law_sorted) (by decide +kernel)) (fun _ _ _ _ _ => by exact (pg_name (i := 3) sc__law_sorted.nd rfl (Or.inl rfl))) (fun _ _ _ _ _ => by exact pts_nil) (fun _ _ _ _ _ => by exact (pv 2)))))))
      (pss_one (ps_ret (pe_callTy (k_tuple (K := K) rfl) rfl T.b_tuple (by decide +kernel) (pa_cons (pv 1) pa_nil)))))), run_pure (N := n__law_sorted) (fun ds k d hp => ?_) h⟩)
  obtain ⟨ns, v, b, rfl, h, v1, hv, hb, rfl, rfl⟩ := hp
  have hl := h.len
  have o := ord_upI (m := v) (by omega)
  have rl := runL_length h o
  refine q_asgO (d := .list (([] : List Int).map .int)) (d_lst (kv := false) (ds := []) a_nil rfl (by decide)) ?_
  refine q_for (i_rng1 (n := v) (a_cons ((d_lenT (d_var rfl)).to (by rw [List.length_map, hl])) a_nil) (by omega) (by omega))
    (fun n Γ1 => ∃ t2 t3, Γ1 = [some (.v (.tuple (ns.map .int))), some (.o (.list ((runL ns ((upI 0 v.toNat).take n)).map .int))), t2, t3]) ⟨_, _, rfl⟩ (fun n a Γ1 hn' hI => ?_) (fun Γ1 hI => ?_)
  · obtain ⟨t2, t3, rfl⟩ := hI
    obtain ⟨hn, rfl⟩ := upI_at hn'
    have hm := gd_mem (l := ns) (j := n) (by omega)
    have x0 := h.nn _ hm
    have x1 := h.le _ hm
    have at0 : atI (ns.map PyData.int) (n : Int) = some (.int (ns.getD n 0)) := at_ints (by omega)
    have gx : gI ns (n : Int) = ns.getD n 0 := by simp [gI]
    generalize ns.getD n 0 = x at x0 x1 at0 gx
    have lu : (upI 0 x.toNat).length = x.toNat := by simp [upI]
    have tl := runL_take (as := ns) (os := upI 0 v.toNat) n
    refine ⟨_, _, g_name, s_asgO ((e_catVO (ds := (runL ns ((upI 0 v.toNat).take n)).map PyData.int) (es := ((upI 0 x.toNat).map fun _ => (n : Int)).map PyData.int) rfl (flatAll_ints _) (d_lcI (l := upI 0 x.toNat) (en := imI) (fun _ => (n : Int)) (i_rng1 (n := x) (a_cons (e_ixT (d_var rfl) (d_var rfl) at0 rfl) a_nil) (by omega) (by omega)) (by simp [upI]; omega) fun i hi => ⟨_, _, g_name, fun j hj => hj, .v, d_var rfl⟩) (flatAll_ints _) (by simp only [List.length_map, lu]; omega)).to ?_) (.inl ⟨_, .inl rfl, some (.v (.int (n : Int))), _, rfl⟩)⟩
    have ex : (upI 0 v.toNat).take (n + 1) = (upI 0 v.toNat).take n ++ [(n : Int)] := by
      rw [List.take_add_one]
      simp [upI, show n < v.toNat by omega]
    rw [ex, runL_snoc, List.map_append]
    congr 2
    rw [gx, List.map_const', lu]
  · obtain ⟨t2, t3, rfl⟩ := hI
    have e : (upI 0 v.toNat).take ((upI 0 v.toNat).map fun i => Im.d (.int i)).length = upI 0 v.toNat := List.take_of_length_le (by simp)
    rw [e]
    exact s_ret (d_tuple (d_varO rfl) (flatAll_ints _)) (.inr ⟨rfl, flatT _⟩) (.inl rfl)

theorem ok__law_transfer {P : Program} {w : World} {K : PySem.W.Frag} {mg : Str → Option Value} {base : Heap} {f : Addr} {fd : FuncData} (F : Fun K "_law_transfer" "_law_transfer" s__law_transfer f fd) (T : Txt mg) :
    FnOk P w K mg base CX0 1 f fd p__law_transfer (sp__law_transfer K) := by
  refine F.ok sc__law_transfer (fun vs H Q E h => spD_len h (by rintro ds k d ⟨ns, ms, rfl, _⟩; rfl)) (fun cdv A outer s H vs Q E hr h => ⟨_, (pss_one (ps_ret (pe_callB (k_sum (K := K) rfl rfl) rfl T.b_sum (by decide +kernel) (pa_cons (pe_lc rfl sc__law_transfer.nd (k_zip (K := K) rfl rfl T.b_zip (pa_cons (pv 0) (pa_cons (pv 1) pa_nil))) (blkOk_by (own := [("a", 2), ("b", 3)]) (N := n__law_transfer) (sc := defScope s__law_transfer) (by decide +kernel)) (fun _ _ _ _ _ => by exact (k_tup (K := K) (n := 2) rfl rfl (pgs_cons (pg_name (i := 2) sc__law_transfer.nd rfl (Or.inl rfl)) (pgs_cons (pg_name (i := 3) sc__law_transfer.nd rfl (Or.inl rfl)) pgs_nil)))) (fun _ _ _ _ _ => by exact pts_nil) (fun _ _ _ _ _ => by exact (pe_callB (call_max2 rfl) rfl T.b_max (by decide +kernel) (pa_cons pe_int (pa_cons (pe_op op_sub (pv 2) (pv 3)) pa_nil))))) pa_nil)))), run_pure (N := n__law_transfer) (fun ds k d hp => ?_) h⟩)
  obtain ⟨ns, ms, rfl, hl, h1, rfl, rfl⟩ := hp
  refine s_ret (e_sumL (d_lcI (l := ns.zip ms) (en := zipI) (fun p => neg0 p) (i_zipTI (a_consV (d_var rfl) (a_consV (d_var rfl) a_nil))) (by simp; omega) fun p _ => ⟨_, _, g_tup rfl (g_cons g_name (g_cons g_name g_nil)), fun j hj => hj, .v, (e_max2 d_int (d_sub (d_var rfl) (d_var rfl))).to ?_⟩)) (.inr ⟨rfl, rfl⟩) (.inl rfl)
  unfold neg0
  congr 1
  split <;> split <;> omega

theorem ok__law_churn {P : Program} {w : World} {K : PySem.W.Frag} {mg : Str → Option Value} {base : Heap} {f : Addr} {fd : FuncData} (F : Fun K "_law_churn" "_law_churn" s__law_churn f fd) (T : Txt mg) :
    FnOk P w K mg base CX0 1 f fd p__law_churn (sp__law_churn K) := by
  refine F.ok sc__law_churn (fun vs H Q E h => spD_len h (by rintro ds k d ⟨ns, ms, rfl, _⟩; rfl)) (fun cdv A outer s H vs Q E hr h => ⟨_, (pss_one (ps_ret (pe_callB (k_len (K := K) rfl) rfl T.b_len (by decide +kernel) (pa_cons (pe_lc rfl sc__law_churn.nd (pi_range1 rfl T.b_range (pa_cons (pe_callB (k_len (K := K) rfl) rfl T.b_len (by decide +kernel) (pa_cons (pv 0) pa_nil)) pa_nil)) (blkOk_by (own := [("at", 2)]) (N := n__law_churn) (sc := defScope s__law_churn) (by decide +kernel)) (fun _ _ _ _ _ => by exact (pg_name (i := 2) sc__law_churn.nd rfl (Or.inl rfl))) (fun _ _ _ _ _ => by exact (pts_one (pt_cmpR (k_ne (K := K) rfl (rUnits hr)) (pe_ix (k_ix (K := K) rfl) (pv 0) (pv 2) (fun _ _ => rfl)) (pe_ix (k_ix (K := K) rfl) (pv 1) (pv 2) (fun _ _ => rfl)) (nomark _)))) (fun _ _ _ _ _ => by exact (pv 2))) pa_nil)))), run_pure (N := n__law_churn) (fun ds k d hp => ?_) h⟩)
  obtain ⟨ns, ms, rfl, hl, h1, rfl, rfl⟩ := hp
  have e1 : (((ns.map PyData.int).length : Nat) : Int).toNat = ns.length := by simp
  refine s_ret ((d_lenL (d_lc (fun i : Int => !decide (ns.getD i.toNat 0 = ms.getD i.toNat 0)) (fun i => .int i) (i_rng1 (a_cons (d_lenT (d_var rfl)) a_nil) (by simp <;> omega) (by simp <;> omega)) (by simp [upI] <;> omega) fun i hi => ?_)).to ?_) (.inr ⟨rfl, rfl⟩) (.inl rfl)
  · rw [e1, mem_upI] at hi
    obtain ⟨j, rfl⟩ := Int.eq_ofNat_of_zero_le hi.1
    have a1 : atI (ns.map PyData.int) (j : Int) = some (.int (ns.getD (j : Int).toNat 0)) := at_ints (by omega)
    have a2 : atI (ms.map PyData.int) (j : Int) = some (.int (ms.getD (j : Int).toNat 0)) := at_ints (by omega)
    exact ⟨_, _, g_name, fun j hj => hj, t_test (e_neI (e_ixT (d_var rfl) (d_var rfl) a1 rfl) (e_ixT (d_var rfl) (d_var rfl) a2 rfl)), fun _ => (d_var rfl).fo rfl⟩
  · rw [List.length_map, e1, churn_up]

theorem ok__law_drawn {P : Program} {w : World} {K : PySem.W.Frag} {mg : Str → Option Value} {base : Heap} {f : Addr} {fd : FuncData} (F : Fun K "_law_drawn" "_law_drawn" s__law_drawn f fd) (T : Txt mg) (c__law_sorted : Cal P w K mg base CX0 1 "_law_sorted" p__law_sorted (sp__law_sortedR K)) (c__law_next : Cal P w K mg base CX0 1 "_law_next" p__law_next (sp__law_next K)) :
    FnOk P w K mg base CX0 2 f fd p__law_drawn (sp__law_drawnP K) := by
  refine F.ok sc__law_drawn (fun vs H Q E h => spS_len h (by rintro ds k P ⟨as, v, b, rfl, _⟩; rfl)) (fun cdv A outer s H vs Q E hr h => ⟨_, (pss_cons (ps_set (i := 2) sc__law_drawn.nd rfl (Or.inl rfl) (pe_callTy (k_list (K := K) rfl) rfl T.b_list (by decide +kernel) (pa_cons (pe_cal c__law_sorted (hr.mono (by decide)) rfl pass0 (pa_cons (pv 1) pa_nil)) pa_nil)))
      (pss_cons (ps_for PassesOwn.never rfl (pi_range1 rfl T.b_range (pa_cons (pe_callB (k_len (K := K) rfl) rfl T.b_len (by decide +kernel) (pa_cons (pv 2) pa_nil)) pa_nil)) (pg_name (i := 3) sc__law_drawn.nd rfl (Or.inl rfl)) (pss_cons (ps_set (i := 4) sc__law_drawn.nd rfl (Or.inl rfl) (pe_op (k_add (K := K) rfl) (pv 3) (pe_cal c__law_next (hr.mono (by decide)) rfl pass0 (pa_cons (pv 0) (pa_cons (pe_op op_sub (pe_callB (k_len (K := K) rfl) rfl T.b_len (by decide +kernel) (pa_cons (pv 2) pa_nil)) (pv 3)) pa_nil)))))
      (pss_one (ps_asg (pe_tupN (pa_cons (pe_ix (k_ix (K := K) rfl) (pv 2) (pv 4) (fun _ _ => rfl)) (pa_cons (pe_ix (k_ix (K := K) rfl) (pv 2) (pv 3) (fun _ _ => rfl)) pa_nil))) (k_tupA (K := K) (n := 2) rfl rfl (pgs_cons (pg_sub (pv 2) (pv 3) set_list) (pgs_cons (pg_sub (pv 2) (pv 4) set_list) pgs_nil)))))))
      (pss_one (ps_ret (pe_callTy (k_tuple (K := K) rfl) rfl T.b_tuple (by decide +kernel) (pa_cons (pv 2) pa_nil)))))), run_str (N := n__law_drawn) (fun st l ds k P' hp => ?_) h⟩)
  obtain ⟨as, v, b, rfl, ha, v1, v5, b20, rfl, rfl⟩ := hp
  have b0 : 0 ≤ b := by rw [← ha.sum]; exact sum_nn ha.nn
  have o := ord_upI (m := v) (by omega)
  have rl := runL_length ha o
  have ok : OkP (as, runL as (upI 0 v.toNat)) v b := ⟨ha, rl, (runL_asg ha o b20).rng, runL_counts ha o⟩
  obtain ⟨S, hS⟩ : ∃ S, S = runL as (upI 0 v.toNat) := ⟨_, rfl⟩
  rw [← hS] at ok rl
  refine q_asgO (d := .list (S.map .int)) (e_listT (d_call (k := .v) (d := tupD S) (a_cons (d_var rfl) a_nil) ⟨as, v, b, rfl, ha, by omega, by omega, by omega, rfl, by rw [hS]⟩) (flatAll_ints _)) ?_
  refine q_for (i_rngN (n := S.length) (a_cons ((d_lenL (d_varO rfl)).to (by rw [List.length_map])) a_nil) (by omega))
    (fun n Γ1 => ∃ (f : List Int) (t3 t4 : Option Rs), Γ1 = [some (.r (.ref st)), some (.v (tupD as)), some (.o (.list (f.map .int))), t3, t4] ∧ f.Perm S) ⟨S, _, _, rfl, List.Perm.refl _⟩ (fun n a Γ1 hn' hI => ?_) (fun Γ1 hI => ?_)
  · obtain ⟨f, t3, t4, rfl, hf⟩ := hI
    obtain ⟨hn, rfl⟩ := rngN_at hn'
    have fl := hf.length_eq
    refine ⟨_, _, g_name, q_asgN (SomeI fun x => 0 ≤ x ∧ x < f.length) (n_add (Qa := fun x => x = (n : Int)) (Qb := fun x => 0 ≤ x ∧ x < (f.length : Int) - n) ((d_var rfl).sm rfl) (n_call (st := st) (l := l) rfl rfl (a_cons (d_sub (d_lenL (d_varO rfl)) (d_var rfl)) a_nil) ⟨_, rfl, by rw [List.length_map]; omega, by rw [List.length_map]; omega, rfl, by rw [List.length_map]⟩) fun x y hx hy => by omega) ?_⟩
    rintro d ⟨x, rfl, x0, x1⟩
    obtain ⟨j, rfl⟩ := Int.eq_ofNat_of_zero_le x0
    have hj : j < f.length := by omega
    refine s_swap rfl (d_tup (a_consV (e_ixL (d_varO rfl) (d_var rfl) (at_ints hj) rfl) (a_consV (e_ixL (d_varO rfl) (d_var rfl) (at_ints (j := n) (by omega)) rfl) a_nil)) (by simp)) (d_var rfl) rfl (by omega) (d_var rfl) rfl hj (by simp) (.inl ⟨_, .inl rfl, _, some (.v (.int (n : Int))), some (.v (.int (j : Int))), rfl, (swap_perm (by omega) hj).trans hf⟩)
  · obtain ⟨f, t3, t4, rfl, hf⟩ := hI
    exact s_ret (d_tuple (d_varO rfl) (flatAll_ints _)) (.inr ⟨rfl, flatT _⟩) ⟨_, rfl, f, rfl, ok.perm hf⟩

theorem ok__law_all_pairs {P : Program} {w : World} {K : PySem.W.Frag} {mg : Str → Option Value} {base : Heap} {f : Addr} {fd : FuncData} (F : Fun K "_law_all_pairs" "_law_all_pairs" s__law_all_pairs f fd) (T : Txt mg) :
    FnOk P w K mg base CX0 1 f fd p__law_all_pairs (sp__law_all_pairs K) := by
  refine F.ok sc__law_all_pairs (fun vs H Q E h => spD_len h (by rintro ds k d ⟨m, rfl, _⟩; rfl)) (fun cdv A outer s H vs Q E hr h => ⟨_, (pss_cons (ps_set (i := 1) sc__law_all_pairs.nd rfl (Or.inl rfl) (pe_lst pa_nil))
      (pss_cons (ps_for PassesOwn.never rfl (pi_range1 rfl T.b_range (pa_cons (pv 0) pa_nil)) (pg_name (i := 2) sc__law_all_pairs.nd rfl (Or.inl rfl)) (pss_one (ps_for PassesOwn.never rfl (pi_range2 rfl T.b_range (pa_cons (pe_op (k_add (K := K) rfl) (pv 2) pe_int) (pa_cons (pv 0) pa_nil))) (pg_name (i := 3) sc__law_all_pairs.nd rfl (Or.inl rfl)) (pss_one (ps_expr (k_bm (K := K) rfl PySem.F.plainAttrs_list PySem.F.slot_list_append PySem.F.type_list_append mt_append (pv 1) (pa_cons (pe_tupN (pa_cons (pv 2) (pa_cons (pv 3) pa_nil))) pa_nil)))))))
      (pss_one (ps_ret (pv 1))))), run_pure (N := n__law_all_pairs) (fun ds k d hp => ?_) h⟩)
  obtain ⟨m, rfl, hm, rfl, rfl⟩ := hp
  refine q_asgO (d := .list ((prF m 0).map tupD)) (d_lst (kv := false) (ds := []) a_nil rfl (by decide)) ?_
  refine q_for (i_rngN (n := m) (a_cons (d_var rfl) a_nil) (by omega))
    (fun n Γ1 => ∃ t2 t3, Γ1 = [some (.v (.int (m : Int))), some (.o (.list ((prF m n).map tupD))), t2, t3]) ⟨_, _, rfl⟩ (fun n a Γ1 hn' hI => ?_) (fun Γ1 hI => ?_)
  · obtain ⟨t2, t3, rfl⟩ := hI
    obtain ⟨hn, rfl⟩ := rngN_at hn'
    have lb := prF_len (m := m) (n := n)
    have lb2 : n * m ≤ 400 := Nat.le_trans (Nat.mul_le_mul (show n ≤ 20 by omega) hm) (by decide)
    refine ⟨_, _, g_name, s_for (i_rngN2 (lo := n + 1) (n := m) (a_cons ((e_add (d_var rfl) d_int).to (by rw [Int.natCast_add]; rfl)) (a_cons (d_var rfl) a_nil)) (by omega) (by omega))
      (fun t Γ1 => ∃ t3, Γ1 = [some (.v (.int (m : Int))), some (.o (.list ((prF m n ++ (List.range t).map fun d => [(n : Int), ((n + 1 + d : Nat) : Int)]).map tupD))), some (.v (.int (n : Int))), t3]) ⟨t3, by simp⟩ (fun t a Γ1 ht' hI => ?_) (fun Γ1 hI => ?_)⟩
    · obtain ⟨t3, rfl⟩ := hI
      obtain ⟨ht, rfl⟩ := rngN2_at ht'
      refine ⟨_, _, g_name, s_app rfl (d := tupD [(n : Int), ((n + 1 + t : Nat) : Int)]) (d_tup (a_consV (d_var rfl) (a_consV (d_var rfl) a_nil)) (by simp)) (flatT _) (by simp; omega) (.inl ⟨_, .inl rfl, some (.v (.int ((n + 1 + t : Nat) : Int))), ?_⟩)⟩
      simp [List.range_succ]
    · obtain ⟨t3, rfl⟩ := hI
      refine .inl ⟨_, .inl rfl, some (.v (.int (n : Int))), t3, ?_⟩
      rw [prF_succ, List.length_map, List.length_range]
  · obtain ⟨t2, t3, rfl⟩ := hI
    rw [List.length_map, List.length_range]
    exact s_retO rfl (.inl rfl)

theorem ok__law_pairs {P : Program} {w : World} {K : PySem.W.Frag} {mg : Str → Option Value} {base : Heap} {f : Addr} {fd : FuncData} (F : Fun K "_law_pairs" "_law_pairs" s__law_pairs f fd) (T : Txt mg) (c__law_all_pairs : Cal P w K mg base CX0 1 "_law_all_pairs" p__law_all_pairs (sp__law_all_pairs K)) (c__law_next : Cal P w K mg base CX0 1 "_law_next" p__law_next (sp__law_next K)) :
    FnOk P w K mg base CX0 2 f fd p__law_pairs (sp__law_pairs K) := by
  refine F.ok sc__law_pairs (fun vs H Q E h => spS_len h (by rintro ds k P ⟨m, n, rfl, _⟩; rfl)) (fun cdv A outer s H vs Q E hr h => ⟨_, (pss_cons (ps_set (i := 3) sc__law_pairs.nd rfl (Or.inl rfl) (pe_cal c__law_all_pairs (hr.mono (by decide)) rfl pass0 (pa_cons (pv 1) pa_nil)))
      (pss_cons (ps_set (i := 4) sc__law_pairs.nd rfl (Or.inl rfl) (pe_lst pa_nil))
      (pss_cons (ps_for PassesOwn.never rfl (pi_range1 rfl T.b_range (pa_cons (pe_callB (call_min2 rfl) rfl T.b_min (by decide +kernel) (pa_cons (pv 2) (pa_cons (pe_callB (k_len (K := K) rfl) rfl T.b_len (by decide +kernel) (pa_cons (pv 3) pa_nil)) pa_nil))) pa_nil)) (pg_name (i := 5) sc__law_pairs.nd rfl (Or.inl rfl)) (pss_one (ps_if (pt_cmpR op_gt (pe_cal c__law_next (hr.mono (by decide)) rfl pass0 (pa_cons (pv 0) (pa_cons pe_int pa_nil))) pe_int (nomark _)) (pss_one (ps_expr (k_bm (K := K) rfl PySem.F.plainAttrs_list PySem.F.slot_list_append PySem.F.type_list_append mt_append (pv 4) (pa_cons (k_bm (K := K) rfl PySem.F.plainAttrs_list PySem.F.slot_list_pop PySem.F.type_list_pop mt_popAt (pv 3) (pa_cons (pe_cal c__law_next (hr.mono (by decide)) rfl pass0 (pa_cons (pv 0) (pa_cons (pe_callB (k_len (K := K) rfl) rfl T.b_len (by decide +kernel) (pa_cons (pv 3) pa_nil)) pa_nil))) pa_nil)) pa_nil)))) pss_nil)))
      (pss_one (ps_ret (pe_callTy (k_tuple (K := K) rfl) rfl T.b_tuple (by decide +kernel) (pa_cons (pv 4) pa_nil))))))), run_str (N := n__law_pairs) (fun st l ds k P' hp => ?_) h⟩)
  obtain ⟨m, n, rfl, hm, hn, rfl, rfl⟩ := hp
  have lb2 : m * m ≤ 400 := Nat.le_trans (Nat.mul_le_mul hm hm) (by decide)
  have lb := prF_len (m := m) (n := m)
  refine q_asgO (d := .list ((prL m).map tupD)) (d_call (k := .o) (a_cons (d_var rfl) a_nil) ⟨m, rfl, hm, rfl, rfl⟩) ?_
  refine q_asgO (d := .list (([] : List (List Int)).map tupD)) (d_lst (kv := false) (ds := []) a_nil rfl (by decide)) ?_
  refine q_for (i_rngN (n := min n (prL m).length) (a_cons ((e_min2 (d_var rfl) (d_lenL (d_varO rfl))).to (by rw [List.length_map]; congr 1; split <;> omega)) a_nil) (by omega))
    (fun j Γ1 => ∃ (left acc : List (List Int)) (t5 : Option Rs), Γ1 = [some (.r (.ref st)), some (.v (.int (m : Int))), some (.v (.int (n : Int))), some (.o (.list (left.map tupD))), some (.o (.list (acc.map tupD))), t5] ∧ acc.length ≤ j ∧ (acc ++ left).Perm (prL m)) ⟨prL m, [], _, rfl, Nat.le_refl _, by simp⟩ (fun j a Γ1 hj' hI => ?_) (fun Γ1 hI => ?_)
  · obtain ⟨left, acc, t5, rfl, hl, hp⟩ := hI
    obtain ⟨hj, rfl⟩ := rngN_at hj'
    have pl := hp.length_eq
    rw [List.length_append] at pl
    have hpl : (prL m).length ≤ 400 := by unfold prL; omega
    refine ⟨_, _, g_name, s_ifN (tn_gt (n_call (st := st) (l := l) rfl rfl (a_cons d_int a_nil) ⟨4, rfl, by decide, by decide, rfl, rfl⟩) (d_int.sm (Q := fun m => m = 0) rfl)) ?_ (s_next (.inl ⟨_, .inl rfl, left, acc, _, rfl, by omega, hp⟩))⟩
    refine s_popApp (Q := fun i => 0 ≤ i ∧ i < ((left.map tupD).length : Nat)) rfl rfl (by decide) (fl_rows _) (fl_rows _) (n_call (st := st) (l := l) rfl rfl (a_cons (d_lenL (d_varO rfl)) a_nil) ⟨_, rfl, by simp; omega, by simp; omega, rfl, rfl⟩) (fun i hi => hi) (by simp; omega) (by simp; omega) fun i d qi hd => ?_
    obtain ⟨i0, i1⟩ := qi
    have hk : i.toNat < left.length := by simp at i1; omega
    rw [List.getElem?_map, List.getElem?_eq_getElem hk] at hd
    have e := (Option.some.inj hd).symm
    subst e
    refine .inl ⟨_, .inl rfl, left.eraseIdx i.toNat, acc ++ [left[i.toNat]], some (.v (.int (j : Int))), ?_, by simp; omega, ?_⟩
    · rw [List.map_append, erase_mapR]
      rfl
    · rw [List.append_assoc]
      exact (List.Perm.append_left acc (erase_permR left i.toNat hk)).trans hp
  · obtain ⟨left, acc, t5, rfl, hl, hp⟩ := hI
    rw [List.length_map, List.length_range] at hl
    refine s_ret (d_tuple (d_varO rfl) (fl_rows acc)) (.inr ⟨rfl, fl_rows acc⟩) ⟨_, rfl, acc, rfl, fun r hr => ?_, ?_, by omega⟩
    · obtain ⟨i, j, rfl, h1, h2⟩ := mem_prL.mp (hp.mem_iff.mp (List.mem_append_left left hr))
      exact ⟨i, j, rfl, by omega, by omega, by omega⟩
    · exact (List.nodup_append.mp (hp.nodup_iff.mpr (prL_nd m (by omega)))).1

theorem ok__law_kept {P : Program} {w : World} {K : PySem.W.Frag} {mg : Str → Option Value} {base : Heap} {f : Addr} {fd : FuncData} (F : Fun K "_law_kept" "_law_kept" s__law_kept f fd) (T : Txt mg) (c__law_churn : Cal P w K mg base CX0 1 "_law_churn" p__law_churn (sp__law_churn K)) (c__law_transfer : Cal P w K mg base CX0 1 "_law_transfer" p__law_transfer (sp__law_transfer K)) :
    FnOk P w K mg base CX0 2 f fd p__law_kept (sp__law_kept K) := by
  refine F.ok sc__law_kept (fun vs H Q E h => spD_len h (by rintro ds k d ⟨A, P, T, v, b, rfl, _⟩; rfl)) (fun cdv A outer s H vs Q E hr h => ⟨_, (pss_cons (ps_set (i := 3) sc__law_kept.nd rfl (Or.inl rfl) (pe_lst pa_nil))
      (pss_cons (ps_for PassesOwn.never rfl (pi_range1 rfl T.b_range (pa_cons (pe_callB (k_len (K := K) rfl) rfl T.b_len (by decide +kernel) (pa_cons (pv 1) pa_nil)) pa_nil)) (pg_name (i := 4) sc__law_kept.nd rfl (Or.inl rfl)) (pss_cons (ps_asg (pe_ix (k_ix (K := K) rfl) (pv 1) (pv 4) (fun _ _ => rfl)) (k_tupA (K := K) (n := 2) rfl rfl (pgs_cons (pg_name (i := 5) sc__law_kept.nd rfl (Or.inl rfl)) (pgs_cons (pg_name (i := 6) sc__law_kept.nd rfl (Or.inl rfl)) pgs_nil))))
      (pss_one (ps_if (pt_cmpR (k_eq (K := K) rfl (rUnits hr)) (pe_cal c__law_churn (hr.mono (by decide)) rfl pass0 (pa_cons (pe_ix (k_ix (K := K) rfl) (pv 2) (pv 5) (fun _ _ => rfl)) (pa_cons (pe_ix (k_ix (K := K) rfl) (pv 2) (pv 6) (fun _ _ => rfl)) pa_nil))) (pe_cal c__law_transfer (hr.mono (by decide)) rfl pass0 (pa_cons (pe_ix (k_ix (K := K) rfl) (pv 0) (pv 5) (fun _ _ => rfl)) (pa_cons (pe_ix (k_ix (K := K) rfl) (pv 0) (pv 6) (fun _ _ => rfl)) pa_nil))) (nomark _)) (pss_one (ps_expr (k_bm (K := K) rfl PySem.F.plainAttrs_list PySem.F.slot_list_append PySem.F.type_list_append mt_append (pv 3) (pa_cons (pv 4) pa_nil)))) pss_nil))))
      (pss_one (ps_ret (pe_callTy (k_tuple (K := K) rfl) rfl T.b_tuple (by decide +kernel) (pa_cons (pv 3) pa_nil)))))), run_pure (N := n__law_kept) (fun ds k d hp => ?_) h⟩)
  obtain ⟨A, P, T, v, b, rfl, h, hP, rfl, rfl⟩ := hp
  have pl := hP.len
  have tl := h.len
  have v5 := h.ser.v5
  have b20 := h.ser.b20
  refine q_asgO (d := .list (([] : List Int).map .int)) (d_lst (kv := false) (ds := []) a_nil rfl (by decide)) ?_
  refine q_for (i_rngN (n := P.length) (a_cons ((d_lenT (d_var rfl)).to (by rw [List.length_map])) a_nil) (by omega))
    (fun n Γ1 => ∃ t4 t5 t6, Γ1 = [some (.v (.tuple (A.map tupD))), some (.v (.tuple (P.map tupD))), some (.v (.tuple (T.map tupD))), some (.o (.list ((((List.range n).filter fun q => keepB A T (P.getD q [])).map fun (i : Nat) => (i : Int)).map .int))), t4, t5, t6]) ⟨_, _, _, rfl⟩ (fun n a Γ1 hn' hI => ?_) (fun Γ1 hI => ?_)
  · obtain ⟨t4, t5, t6, rfl⟩ := hI
    obtain ⟨hn, rfl⟩ := rngN_at hn'
    obtain ⟨i, j, e, i0, ij, jm⟩ := hP.two _ (gL_mem hn)
    obtain ⟨i, rfl⟩ := Int.eq_ofNat_of_zero_le i0
    obtain ⟨j, rfl⟩ := Int.eq_ofNat_of_zero_le (show 0 ≤ j by omega)
    have hi : i < A.length := by omega
    have hj : j < A.length := by omega
    have pi := h.ok i hi
    have pj := h.ok j hj
    have ai := pi.alc.len
    have aj := pj.alc.len
    have li := pi.len
    have lj := pj.len
    simp only at ai aj li lj
    have fl : ((List.range n).filter fun q => keepB A T (P.getD q [])).length ≤ 15 := by
      have := List.length_filter_le (fun q => keepB A T (P.getD q [])) (List.range n)
      rw [List.length_range] at this
      omega
    refine ⟨_, _, g_name, q_unp (fun d => d = tupD [(i : Int), (j : Int)]) ((e_ixT (d_var rfl) (d_var rfl) (at_tup hn) (flatT _)).to (by rw [e])).n ?_⟩
    rintro d rfl
    refine ⟨_, _, _, .inl rfl, flatAll_ints [(i : Int), (j : Int)], rfl, g_cons g_name (g_cons g_name g_nil), ?_⟩
    have ke : keepB A T (P.getD n []) = decide (zs ne1 (T.getD i []) (T.getD j []) = trI (A.getD i []) (A.getD j [])) := by rw [e]; rfl
    refine s_if (t_test (e_eqI (d_call (k := .v) (a_cons (e_ixT (d_var rfl) (d_var rfl) (at_tup (A := T) (by omega)) (flatT _)) (a_cons (e_ixT (d_var rfl) (d_var rfl) (at_tup (A := T) (by omega)) (flatT _)) a_nil)) ⟨T.getD i [], T.getD j [], rfl, by omega, by omega, rfl, rfl⟩) (d_call (k := .v) (a_cons (e_ixT (d_var rfl) (d_var rfl) (at_tup hi) (flatT _)) (a_cons (e_ixT (d_var rfl) (d_var rfl) (at_tup hj) (flatT _)) a_nil)) ⟨A.getD i [], A.getD j [], rfl, by omega, by omega, rfl, rfl⟩))) (fun w => ?_) fun w => s_next (.inl ⟨_, .inl rfl, some (.v (.int (n : Int))), some (.v (.int (i : Int))), some (.v (.int (j : Int))), ?_⟩)
    · refine s_app rfl (d_var rfl) rfl (by simp only [List.length_map]; omega) (.inl ⟨_, .inl rfl, some (.v (.int (n : Int))), some (.v (.int (i : Int))), some (.v (.int (j : Int))), ?_⟩)
      rw [List.range_succ, List.filter_append, List.filter_cons_of_pos (by rw [ke, w]), List.map_append, List.map_append]
      rfl
    · rw [List.range_succ, List.filter_append, List.filter_cons_of_neg (by rw [ke, w]; decide), List.filter_nil, List.append_nil]
      rfl
  · obtain ⟨t4, t5, t6, rfl⟩ := hI
    rw [List.length_map, List.length_range]
    exact s_ret (d_tuple (d_varO rfl) (flatAll_ints _)) (.inr ⟨rfl, flatT _⟩) (.inl rfl)

theorem ok__law_change {P : Program} {w : World} {K : PySem.W.Frag} {mg : Str → Option Value} {base : Heap} {f : Addr} {fd : FuncData} (F : Fun K "_law_change" "_law_change" s__law_change f fd) (T : Txt mg) (c__law_next : Cal P w K mg base CX0 1 "_law_next" p__law_next (sp__law_next K)) :
    FnOk P w K mg base CX0 2 f fd p__law_change (sp__law_change K) := by
  refine F.ok sc__law_change (fun vs H Q E h => spS_len h (by rintro ds k P ⟨A, B, f, v, b, rfl, _⟩; rfl)) (fun cdv A outer s H vs Q E hr h => ⟨_, (pss_cons (ps_set (i := 4) sc__law_change.nd rfl (Or.inr rfl) (pe_callTy (k_list (K := K) rfl) rfl T.b_list (by decide +kernel) (pa_cons (pv 3) pa_nil)))
      (pss_cons (ps_for PassesOwn.never rfl (pi_range1 rfl T.b_range (pa_cons (pe_callB (k_len (K := K) rfl) rfl T.b_len (by decide +kernel) (pa_cons (pv 1) pa_nil)) pa_nil)) (pg_name (i := 5) sc__law_change.nd rfl (Or.inr rfl)) (pss_one (ps_for PassesOwn.never rfl (pi_range1 rfl T.b_range (pa_cons (pe_op op_sub (pe_ix (k_ix (K := K) rfl) (pv 1) (pv 5) (fun _ _ => rfl)) (pe_ix (k_ix (K := K) rfl) (pv 2) (pv 5) (fun _ _ => rfl))) pa_nil)) (pg_name (i := 6) sc__law_change.nd rfl (Or.inl rfl)) (pss_cons (ps_setLc (i := 7) rfl sc__law_change.nd rfl rfl (sw_true rfl rfl rfl (by decide +kernel)) (pi_range1 rfl T.b_range (pa_cons (pe_callB (k_len (K := K) rfl) rfl T.b_len (by decide +kernel) (pa_cons (pv 4) pa_nil)) pa_nil)) (blkOk_by (own := [("at", 8)]) (N := n__law_change) (sc := defScope s__law_change) (by decide +kernel)) (fun _ _ _ _ _ => by exact (pg_name (i := 8) sc__law_change.nd rfl (Or.inl rfl))) (fun _ _ _ _ _ => by exact (pts_one (pt_cmpR (k_eq (K := K) rfl (rUnits hr)) (pe_ix (k_ix (K := K) rfl) (pv 4) (pv 8) (fun _ _ => rfl)) (pv 5) (nomark _)))) (fun _ _ _ _ _ => by exact (pv 8)))
      (pss_cons (ps_setLc (i := 9) rfl sc__law_change.nd rfl rfl (sw_true rfl rfl rfl (by decide +kernel)) (pi_range1 rfl T.b_range (pa_cons (pe_callB (k_len (K := K) rfl) rfl T.b_len (by decide +kernel) (pa_cons (pv 1) pa_nil)) pa_nil)) (blkOk_by (own := [("new", 10)]) (N := n__law_change) (sc := defScope s__law_change) (by decide +kernel)) (fun _ _ _ _ _ => by exact (pg_name (i := 10) sc__law_change.nd rfl (Or.inl rfl))) (fun _ _ _ _ _ => by exact (pts_one (pt_cmpR op_lt (k_bm (K := K) rfl PySem.F.plainAttrs_list PySem.F.slot_list_count PySem.F.type_list_count (k_lcount (K := K) rfl (rUnits5 hr)) (pv 4) (pa_cons (pv 10) pa_nil)) (pe_ix (k_ix (K := K) rfl) (pv 2) (pv 10) (fun _ _ => rfl)) (nomark _)))) (fun _ _ _ _ _ => by exact (pv 10)))
      (pss_one (ps_asg (pe_ix (k_ix (K := K) rfl) (pv 9) (pe_cal c__law_next (hr.mono (by decide)) rfl pass0 (pa_cons (pv 0) (pa_cons (pe_callB (k_len (K := K) rfl) rfl T.b_len (by decide +kernel) (pa_cons (pv 9) pa_nil)) pa_nil))) (fun _ _ => rfl)) (pg_sub (pv 4) (pe_ix (k_ix (K := K) rfl) (pv 7) (pe_cal c__law_next (hr.mono (by decide)) rfl pass0 (pa_cons (pv 0) (pa_cons (pe_callB (k_len (K := K) rfl) rfl T.b_len (by decide +kernel) (pa_cons (pv 7) pa_nil)) pa_nil))) (fun _ _ => rfl)) set_list))))))))
      (pss_one (ps_ret (pe_callTy (k_tuple (K := K) rfl) rfl T.b_tuple (by decide +kernel) (pa_cons (pv 4) pa_nil)))))), run_str (N := n__law_change) (fun st l ds k P' hp => ?_) h⟩)
  obtain ⟨A, B, f, v, b, rfl, hA, hB, v1, v5, b20, rfl, rfl⟩ := hp
  have al := hA.alc.len
  have bl := hB.len
  have fl := hA.len
  simp only at al fl
  have b0 : 0 ≤ b := by rw [← hB.sum]; exact sum_nn hB.nn
  obtain ⟨V, rfl⟩ : ∃ V : Nat, v = (V : Int) := ⟨v.toNat, by omega⟩
  refine q_asgO (d := .list (f.map .int)) (e_listT (d_var rfl) (flatAll_ints _)) ?_
  refine q_for (i_rngN (n := V) (a_cons ((d_lenT (d_var rfl)).to (by rw [List.length_map, al])) a_nil) (by omega))
    (fun n Γ1 => ∃ (g : List Int) (t5 t6 t7 t9 : Option Rs), Γ1 = [some (.r (.ref st)), some (.v (tupD A)), some (.v (tupD B)), some (.v (tupD f)), some (.o (.list (g.map .int))), t5, t6, t7, none, t9, none] ∧ Chg A B g V n 0) ⟨f, _, _, _, _, rfl, Chg.start hA hB⟩ (fun n a Γ1 hn' hI => ?_) (fun Γ1 hI => ?_)
  · obtain ⟨g, t5, t6, t7, t9, rfl, hg⟩ := hI
    obtain ⟨hn, rfl⟩ := rngN_at hn'
    have a20 : A.getD n 0 ≤ 20 := by have := le_sum hA.alc.nn _ (gd_mem (l := A) (j := n) (by omega)); have := hA.alc.sum; simp only at *; omega
    have a0 : 0 ≤ A.getD n 0 := hA.alc.nn _ (gd_mem (l := A) (j := n) (by omega))
    have bb0 : 0 ≤ B.getD n 0 := hB.nn _ (gd_mem (by omega))
    have bb20 : B.getD n 0 ≤ 20 := by have := le_sum hB.nn _ (gd_mem (l := B) (j := n) (by omega)); have := hB.sum; omega
    refine ⟨_, _, g_name, s_for (i_rng1 (n := A.getD n 0 - B.getD n 0) (a_cons (d_sub (e_ixT (d_var rfl) (d_var rfl) (at_ints (by omega)) rfl) (e_ixT (d_var rfl) (d_var rfl) (at_ints (by omega)) rfl)) a_nil) (by omega) (by omega))
      (fun t Γ1 => ∃ (g : List Int) (t6 t7 t9 : Option Rs), Γ1 = [some (.r (.ref st)), some (.v (tupD A)), some (.v (tupD B)), some (.v (tupD f)), some (.o (.list (g.map .int))), some (.v (.int (n : Int))), t6, t7, none, t9, none] ∧ Chg A B g V n t) ⟨g, t6, t7, t9, rfl, hg⟩ (fun t a Γ1 ht' hI => ?_) (fun Γ1 hI => ?_)⟩
    · obtain ⟨g, t6, t7, t9, rfl, hg⟩ := hI
      obtain ⟨ht, rfl⟩ := upI_at ht'
      have tb : 0 ≤ (t : Int) ∧ (t : Int) < A.getD n 0 - B.getD n 0 := by omega
      obtain ⟨w1, x0, w2, w3⟩ := hg.wanted hB (by omega) tb
      have gl := hg.len
      rw [hB.sum] at gl
      obtain ⟨pls, hpls⟩ : ∃ pls, pls = (List.range g.length).filter fun (i : Nat) => decide (g.getD i 0 = (n : Int)) := ⟨_, rfl⟩
      obtain ⟨wan, hwan⟩ : ∃ wan, wan = (List.range V).filter fun (i : Nat) => decide ((g.count (i : Int) : Int) < B.getD i 0) := ⟨_, rfl⟩
      have pp : 0 < pls.length := by rw [hpls, ← count_places]; exact w1
      have wp : 0 < wan.length := by
        rw [hwan]
        exact List.length_pos_of_mem (a := x0) (List.mem_filter.mpr ⟨List.mem_range.mpr (by omega), decide_eq_true w3⟩)
      have pl : pls.length ≤ 20 := by
        rw [hpls]
        have := List.length_filter_le (fun i => decide (g.getD i 0 = (n : Int))) (List.range g.length)
        rw [List.length_range] at this
        omega
      have wl : wan.length ≤ 20 := by
        rw [hwan]
        have := List.length_filter_le (fun (i : Nat) => decide ((g.count (i : Int) : Int) < B.getD i 0)) (List.range V)
        rw [List.length_range] at this
        omega
      refine ⟨_, _, g_name, q_asgO (d := .list (pls.map fun (i : Nat) => PyData.int (i : Int))) (Ev.to (d_lc (l := List.range g.length) (en := fun (i : Nat) => Im.d (.int (i : Int))) (fun i => decide (g.getD i 0 = (n : Int))) (fun (i : Nat) => .int (i : Int)) (i_rngN (a_cons ((d_lenL (d_varO rfl)).to (by rw [List.length_map])) a_nil) (by omega)) (by simp; omega) fun i hi => ⟨_, _, g_name, fun j hj => hj, t_test (e_eqI (e_ixL (d_varO rfl) (d_var rfl) (at_ints (List.mem_range.mp hi)) rfl) (d_var rfl)), fun _ => (d_var rfl).fo rfl⟩) (by rw [hpls])) ?_⟩
      refine q_asgO (d := .list (wan.map fun (i : Nat) => PyData.int (i : Int))) (Ev.to (d_lc (l := List.range V) (en := fun (i : Nat) => Im.d (.int (i : Int))) (fun (i : Nat) => decide ((g.count (i : Int) : Int) < B.getD i 0)) (fun (i : Nat) => .int (i : Int)) (i_rngN (a_cons ((d_lenT (d_var rfl)).to (by rw [List.length_map, al])) a_nil) (by omega)) (by simp; omega) fun i hi => ⟨_, _, g_name, fun j hj => hj, t_test (d_lt (Ev.to (e_countL (d := .int (i : Int)) (d_varO rfl) (d_var rfl) (shapedL _) rfl) (by rw [count_eqv])) (e_ixT (d_var rfl) (d_var rfl) (at_ints (by have := List.mem_range.mp hi; omega)) rfl)), fun _ => (d_var rfl).fo rfl⟩) (by rw [hwan])) ?_
      have drw : ∀ (l : List Nat) (x : PyData) (i : Int), x = .list (l.map fun (i : Nat) => PyData.int (i : Int)) → (0 ≤ i ∧ i < (l.length : Int)) → ∃ ds d, x = .list ds ∧ atI ds i = some d ∧ flatD d = true ∧ ∃ m : Int, d = .int m ∧ ∃ y ∈ l, m = (y : Int) := by
        rintro l x i rfl ⟨hi0, hi1⟩
        obtain ⟨i, rfl⟩ := Int.eq_ofNat_of_zero_le hi0
        have li : i < l.length := by omega
        exact ⟨_, _, rfl, atI_nat (by rw [List.getElem?_map, List.getElem?_eq_getElem li]; rfl), rfl, _, rfl, l[i], List.getElem_mem li, rfl⟩
      refine s_setNN (Qx := fun m => ∃ y ∈ wan, m = (y : Int)) (Qi := fun m => ∃ y ∈ pls, m = (y : Int)) rfl (n_ixL (Q := fun i => 0 ≤ i ∧ i < (wan.length : Int)) (d_varO rfl).n (n_call (st := st) (l := l) rfl rfl (a_cons (d_lenL (d_varO rfl)) a_nil) ⟨_, rfl, by rw [List.length_map]; omega, by rw [List.length_map]; omega, rfl, by rw [List.length_map]⟩) (drw wan)) (n_ixL (Q := fun i => 0 ≤ i ∧ i < (pls.length : Int)) (d_varO rfl).n (n_call (st := st) (l := l) rfl rfl (a_cons (d_lenL (d_varO rfl)) a_nil) ⟨_, rfl, by rw [List.length_map]; omega, by rw [List.length_map]; omega, rfl, by rw [List.length_map]⟩) (drw pls)) (fun i hi => ?_) fun x i hx hi => ?_
      · obtain ⟨y, hy, rfl⟩ := hi
        rw [hpls] at hy
        have := List.mem_range.mp (List.mem_filter.mp hy).1
        omega
      · obtain ⟨y, hy, rfl⟩ := hi
        obtain ⟨z, hz, rfl⟩ := hx
        rw [hpls] at hy
        rw [hwan] at hz
        have y1 := List.mem_range.mp (List.mem_filter.mp hy).1
        have y2 := of_decide_eq_true (List.mem_filter.mp hy).2
        have z1 := List.mem_range.mp (List.mem_filter.mp hz).1
        have z2 := of_decide_eq_true (List.mem_filter.mp hz).2
        exact .inl ⟨_, .inl rfl, g.set y (z : Int), some (.v (.int (t : Int))), _, _, rfl, hg.step tb (by omega) y1 y2 (by omega) z2⟩
    · obtain ⟨g, t6, t7, t9, rfl, hg⟩ := hI
      refine .inl ⟨_, .inl rfl, g, _, _, _, _, rfl, hg.next fun hd => ?_⟩
      simp [upI]
      simp only [List.getD_eq_getElem?_getD] at hd
      omega
  · obtain ⟨g, t5, t6, t7, t9, rfl, hg⟩ := hI
    rw [List.length_map, List.length_range] at hg
    exact s_ret (d_tuple (d_varO rfl) (flatAll_ints _)) (.inr ⟨rfl, flatT _⟩) ⟨_, rfl, g, rfl, Chg.fin hB (by omega) (by rw [Int.toNat_natCast]; exact hg)⟩
end W

namespace W
open PySem PySem.Spec PyProof.Rows L2 Lm
theorem ok_law {P : Program} {w : World} {K : PySem.W.Frag} {mg : Str → Option Value} {base : Heap} {f : Addr} {fd : FuncData} (F : Fun K "law" "law" s_law f fd) (T : Txt mg) (c__law_stream : Cal P w K mg base CX0 1 "_law_stream" p__law_stream (sp__law_stream K)) (c__law_series : Cal P w K mg base CX0 3 "_law_series" p__law_series (sp__law_seriesE K)) (c__law_pairs : Cal P w K mg base CX0 2 "_law_pairs" p__law_pairs (sp__law_pairs K)) (c__law_next : Cal P w K mg base CX0 1 "_law_next" p__law_next (sp__law_next K)) (c__law_drawn : Cal P w K mg base CX0 2 "_law_drawn" p__law_drawn (sp__law_drawnP K)) (c__law_equal : Cal P w K mg base CX0 10 "_law_equal" p__law_equal (sp__law_equal K)) (c__law_change : Cal P w K mg base CX0 2 "_law_change" p__law_change (sp__law_change K)) (c_kept_pairs : Cal P w K mg base CX0 8 "kept_pairs" p_kept_pairs (sp_kept_pairs K)) (c__law_kept : Cal P w K mg base CX0 2 "_law_kept" p__law_kept (sp__law_kept K)) :
    FnOk P w K mg base CX0 11 f fd p_law (spLaw K) := by
  refine F.ok sc_law (fun vs H Q E h => by obtain ⟨a, ns, rfl, _⟩ := h; rfl) (fun cdv A outer s H vs Q E hr h => ⟨_, (pss_cons (ps_set (i := 1) sc_law.nd rfl (Or.inl rfl) (pe_cal c__law_stream (hr.mono (by decide)) rfl pass0 (pa_cons (pv 0) pa_nil)))
      (pss_cons (ps_set (i := 2) sc_law.nd rfl (Or.inl rfl) (pe_op (k_add (K := K) rfl) pe_int (pe_cal c__law_next (hr.mono (by decide)) rfl pass0 (pa_cons (pv 1) (pa_cons pe_int pa_nil)))))
      (pss_cons (ps_set (i := 3) sc_law.nd rfl (Or.inl rfl) (pe_op (k_add (K := K) rfl) pe_int (pe_cal c__law_next (hr.mono (by decide)) rfl pass0 (pa_cons (pv 1) (pa_cons pe_int pa_nil)))))
      (pss_cons (ps_set (i := 4) sc_law.nd rfl (Or.inl rfl) (pe_cal c__law_series (hr.mono (by decide)) rfl pass0 (pa_cons (pv 1) (pa_cons (pv 2) (pa_cons (pe_cal c__law_next (hr.mono (by decide)) rfl pass0 (pa_cons (pv 1) (pa_cons pe_int pa_nil))) (pa_cons (pv 3) pa_nil))))))
      (pss_cons (ps_set (i := 5) sc_law.nd rfl (Or.inl rfl) (pe_cal c__law_pairs (hr.mono (by decide)) rfl pass0 (pa_cons (pv 1) (pa_cons (pv 3) (pa_cons pe_int pa_nil)))))
      (pss_cons (ps_for PassesOwn.never rfl (pi_range1 rfl T.b_range (pa_cons pe_int pa_nil)) (pg_name (i := 6) sc_law.nd rfl (Or.inl rfl)) (pss_cons (ps_set (i := 7) sc_law.nd rfl (Or.inl rfl) (pe_lst (pa_cons (pe_cal c__law_drawn (hr.mono (by decide)) rfl pass0 (pa_cons (pv 1) (pa_cons (pe_ix (k_ix (K := K) rfl) (pv 4) pe_int (fun _ _ => rfl)) pa_nil))) pa_nil)))
      (pss_cons (ps_for PassesOwn.never rfl (pi_range2 rfl T.b_range (pa_cons pe_int (pa_cons (pv 3) pa_nil))) (pg_name (i := 8) sc_law.nd rfl (Or.inl rfl)) (pss_cons (ps_set (i := 9) sc_law.nd rfl (Or.inl rfl) (pe_cal c__law_drawn (hr.mono (by decide)) rfl pass0 (pa_cons (pv 1) (pa_cons (pe_ix (k_ix (K := K) rfl) (pv 4) (pv 8) (fun _ _ => rfl)) pa_nil))))
      (pss_cons (ps_if (pt_cmpR op_gt (pe_cal c__law_next (hr.mono (by decide)) rfl pass0 (pa_cons (pv 1) (pa_cons pe_int pa_nil))) pe_int (nomark _)) (pss_cons (ps_set (i := 10) sc_law.nd rfl (Or.inl rfl) (pe_cal c__law_next (hr.mono (by decide)) rfl pass0 (pa_cons (pv 1) (pa_cons (pv 8) pa_nil))))
      (pss_one (ps_set (i := 9) sc_law.nd rfl (Or.inl rfl) (pe_cal c__law_change (hr.mono (by decide)) rfl pass0 (pa_cons (pv 1) (pa_cons (pe_ix (k_ix (K := K) rfl) (pv 4) (pv 10) (fun _ _ => rfl)) (pa_cons (pe_ix (k_ix (K := K) rfl) (pv 4) (pv 8) (fun _ _ => rfl)) (pa_cons (pe_ix (k_ix (K := K) rfl) (pv 7) (pv 10) (fun _ _ => rfl)) pa_nil)))))))) pss_nil)
      (pss_one (ps_expr (k_bm (K := K) rfl PySem.F.plainAttrs_list PySem.F.slot_list_append PySem.F.type_list_append mt_append (pv 7) (pa_cons (pv 9) pa_nil)))))))
      (pss_one (ps_if (pt_not (pt_val (pe_cal c__law_equal (hr.mono (by decide)) rfl pass0 (pa_cons (pe_cal c_kept_pairs (hr.mono (by decide)) rfl pass0 (pa_cons (pv 4) (pa_cons (pv 5) (pa_cons (pe_callTy (k_tuple (K := K) rfl) rfl T.b_tuple (by decide +kernel) (pa_cons (pv 7) pa_nil)) pa_nil)))) (pa_cons (pe_cal c__law_kept (hr.mono (by decide)) rfl pass0 (pa_cons (pv 4) (pa_cons (pv 5) (pa_cons (pe_callTy (k_tuple (K := K) rfl) rfl T.b_tuple (by decide +kernel) (pa_cons (pv 7) pa_nil)) pa_nil)))) pa_nil))))) (pss_one (ps_ret pe_bl)) pss_nil)))))
      (pss_one (ps_ret pe_bl)))))))), run_law (N := n_law) (by decide) (fun st l => ?_) h⟩)
  refine q_asgN (SomeI fun v => 2 ≤ v ∧ v ≤ 4) (n_add (d_int.sm (Q := fun m => m = 2) rfl) (n_call (st := st) (l := l) rfl rfl (a_cons d_int a_nil) ⟨3, rfl, by decide, by decide, rfl, rfl⟩) fun m n hm hn => by omega) ?_
  rintro d ⟨v, rfl, hv⟩
  refine q_asgN (SomeI fun v => 2 ≤ v ∧ v ≤ 5) (n_add (d_int.sm (Q := fun m => m = 2) rfl) (n_call (st := st) (l := l) rfl rfl (a_cons d_int a_nil) ⟨4, rfl, by decide, by decide, rfl, rfl⟩) fun m n hm hn => by omega) ?_
  rintro d ⟨m, rfl, hm⟩
  refine q_asgN (fun d => ∃ A b, d = .tuple (A.map tupD) ∧ Ser A v b ∧ (A.length : Int) = m ∧ 0 ≤ b ∧ b ≤ 6) (n_callM3 (Pa := SomeI fun b => 0 ≤ b ∧ b < 7) rfl rfl (d_var rfl) (n_call (st := st) (l := l) rfl rfl (a_cons d_int a_nil) ⟨7, rfl, by decide, by decide, rfl, rfl⟩) (d_var rfl) fun z hz => by
    obtain ⟨b, rfl, b0, b1⟩ := hz
    refine ⟨_, ⟨v, b, m, rfl, by omega, by omega, by omega, by omega, by omega, by omega, rfl, rfl⟩, ?_⟩
    rintro d ⟨A, rfl, hA, hl⟩
    exact ⟨A, b, rfl, hA, hl, by omega, by omega⟩) ?_
  rintro d ⟨A, b, rfl, hA, hl, b0, b6⟩
  obtain ⟨n, rfl⟩ : ∃ n : Nat, m = (n : Int) := ⟨m.toNat, by omega⟩
  have hn : A.length = n := by omega
  have l6 : A.length ≤ 6 := by omega
  have v5 := hA.v5
  refine q_asgN _ (n_call (st := st) (l := l) rfl rfl (a_cons (d_var rfl) (a_cons d_int a_nil)) ⟨n, 10, rfl, by omega, by decide, rfl, rfl⟩) ?_
  rintro d ⟨P, rfl, hP⟩
  have hP' : Prs P A.length := by rw [hn]; exact hP
  have pl := hP.len
  refine q_for (i_rng1 (n := 3) (a_cons d_int a_nil) (by decide) (by decide))
    (fun _ Γ1 => ∃ t6 t7 t8 t9 t10, Γ1 = [none, some (.r (.ref st)), some (.v (.int v)), some (.v (.int (n : Int))), some (.v (.tuple (A.map tupD))), some (.v (.tuple (P.map tupD))), t6, t7, t8, t9, t10]) ⟨_, _, _, _, _, rfl⟩ (fun q a Γ1 hq' hI => ?_) (fun Γ1 hI => ?_)
  · obtain ⟨t6, t7, t8, t9, t10, rfl⟩ := hI
    obtain ⟨hq, rfl⟩ := upI_at hq'
    refine ⟨_, _, g_name, q_asgNO _ (n_lst1 (n_call (st := st) (l := l) rfl rfl (a_cons (e_ixT (d_var rfl) d_int (at_tup (j := 0) (by omega)) (flatT _)) a_nil) ⟨A.getD 0 [], v, b, rfl, hA.at (by omega), by omega, by omega, by omega, rfl, rfl⟩) (by rintro d ⟨ns, rfl, _⟩; exact flatT ns)) ?_⟩
    rintro d ⟨x, rfl, f0, rfl, hf0⟩
    refine q_for (i_rngN2 (lo := 1) (n := n) (a_cons d_int (a_cons (d_var rfl) a_nil)) (by omega) (by decide))
      (fun t Γ1 => ∃ (T : List (List Int)) (t8 t9 t10 : Option Rs), Γ1 = [none, some (.r (.ref st)), some (.v (.int v)), some (.v (.int (n : Int))), some (.v (.tuple (A.map tupD))), some (.v (.tuple (P.map tupD))), some (.v (.int (q : Int))), some (.o (.list (T.map tupD))), t8, t9, t10] ∧ T.length = 1 + t ∧ ∀ i < 1 + t, OkP (A.getD i [], T.getD i []) v b) ⟨[f0], t8, t9, t10, rfl, rfl, fun i hi => by
        have : i = 0 := by omega
        subst this
        exact hf0⟩ (fun t a Γ1 ht' hI => ?_) (fun Γ1 hI => ?_)
    · obtain ⟨T, t8, t9, t10, rfl, hT, hok⟩ := hI
      obtain ⟨ht, rfl⟩ := rngN2_at ht'
      obtain ⟨j, hj⟩ : ∃ j, j = 1 + t := ⟨_, rfl⟩
      rw [← hj] at hT hok ⊢
      have hjn : j < A.length := by omega
      refine ⟨_, _, g_name, q_asgN (fun d => ∃ f, d = tupD f ∧ OkP (A.getD j [], f) v b) (n_call (st := st) (l := l) rfl rfl (a_cons (e_ixT (d_var rfl) (d_var rfl) (at_tup hjn) (flatT _)) a_nil) ⟨A.getD j [], v, b, rfl, hA.at hjn, by omega, by omega, by omega, rfl, rfl⟩) ?_⟩
      rintro d ⟨f, rfl, hf⟩
      refine s_seqE (fun Γ1 => ∃ (f : List Int) (t10 : Option Rs), Γ1 = [none, some (.r (.ref st)), some (.v (.int v)), some (.v (.int (n : Int))), some (.v (.tuple (A.map tupD))), some (.v (.tuple (P.map tupD))), some (.v (.int (q : Int))), some (.o (.list (T.map tupD))), some (.v (.int (j : Int))), some (.v (tupD f)), t10] ∧ OkP (A.getD j [], f) v b) ?_ ?_
      · refine s_ifN (tn_gt (n_call (st := st) (l := l) rfl rfl (a_cons d_int a_nil) ⟨3, rfl, by decide, by decide, rfl, rfl⟩) (d_int.sm (Q := fun m => m = 0) rfl)) ?_ (s_next ⟨_, rfl, f, _, rfl, hf⟩)
        refine q_asgN (SomeI fun x => 0 ≤ x ∧ x < (j : Int)) (n_call (st := st) (l := l) rfl rfl (a_cons (d_var rfl) a_nil) ⟨_, rfl, by omega, by omega, rfl, rfl⟩) ?_
        rintro d ⟨x, rfl, x0, x1⟩
        obtain ⟨i, rfl⟩ := Int.eq_ofNat_of_zero_le x0
        refine s_asgN (fun d => ∃ f, d = tupD f ∧ OkP (A.getD j [], f) v b) (n_call (st := st) (l := l) rfl rfl (a_cons (e_ixT (d_var rfl) (d_var rfl) (at_tup (by omega)) (flatT _)) (a_cons (e_ixT (d_var rfl) (d_var rfl) (at_tup hjn) (flatT _)) (a_cons (e_ixL (d_varO rfl) (d_var rfl) (at_tup (A := T) (j := i) (by omega)) (flatT _)) a_nil))) ⟨A.getD i [], A.getD j [], T.getD i [], v, b, rfl, hok i (by omega), hA.at hjn, by omega, by omega, by omega, rfl, rfl⟩) ?_
        rintro d ⟨g, rfl, hg⟩
        exact ⟨_, rfl, g, _, rfl, hg⟩
      · rintro Γ1 ⟨f, t10, rfl, hf⟩
        refine s_app rfl (d_var rfl) (flatT _) (by simp only [List.length_map]; omega) (.inl ⟨_, .inl rfl, T ++ [f], some (.v (.int (j : Int))), some (.v (tupD f)), t10, ?_, by simp [hT]; omega, fun i hi => ?_⟩)
        · rw [List.map_append]
          rfl
        · by_cases e : i = j
          · subst e
            rw [show (T ++ [f]).getD i [] = f by rw [List.getD_eq_getElem?_getD, List.getElem?_append_right (by omega), hT, Nat.sub_self]; rfl]
            exact hf
          · rw [show (T ++ [f]).getD i [] = T.getD i [] by rw [List.getD_eq_getElem?_getD, List.getElem?_append_left (by omega), List.getD_eq_getElem?_getD]]
            exact hok i (by omega)
    · obtain ⟨T, t8, t9, t10, rfl, hT, hok⟩ := hI
      rw [List.length_map, List.length_range] at hT hok
      have tbl : Tbl T A v b := ⟨hA, by omega, fun i hi => hok i (by omega)⟩
      have kl : (keptL A P T).length ≤ 15 := by
        unfold keptL
        rw [List.length_map]
        have := List.length_filter_le (fun q => keepB A T (P.getD q [])) (List.range P.length)
        rw [List.length_range] at this
        omega
      refine s_no ((t_not (t_B (d_call (E := E0) (k := .v) (d := .bool true) (a_cons (d_call (k := .v) (d := tupD (keptL A P T)) (a_cons (d_var rfl) (a_cons (d_var rfl) (a_cons (d_tuple (d_varO rfl) (fl_rows T)) a_nil))) ⟨A, P, T, v, b, rfl, tbl, l6, hP', rfl, rfl⟩) (a_cons (d_call (k := .v) (d := tupD (keptL A P T)) (a_cons (d_var rfl) (a_cons (d_var rfl) (a_cons (d_tuple (d_varO rfl) (fl_rows T)) a_nil))) ⟨A, P, T, v, b, rfl, tbl, hP', rfl, rfl⟩) a_nil)) ⟨_, rfl, EqOk.ints (by omega), rfl, rfl⟩))).to rfl) (s_next (.inl ⟨_, .inl rfl, _, _, _, _, _, rfl⟩))
  · obtain ⟨t6, t7, t8, t9, t10, rfl⟩ := hI
    exact s_ret d_bl (.inr ⟨rfl, rfl⟩) rfl

end W

namespace W
open PySem PySem.Spec PyProof.Rows L2 Lm
theorem all_mk {l : PySem.W.OpenLaw} {w : World} {K : PySem.W.Frag} {h : Heap} {mg : Str → Option Value} {fa : Addr} (X : K.In h) (G : h.Ns mainGlobals mg) (hfa : mg "law" = some (.ref fa))
    {od_is_integer an_is_integer : Option Addr} {sl_is_integer : Array (Option Value)} {oc_is_integer kV_is_integer dc_is_integer pm_is_integer cd_is_integer ct_is_integer : Value} {f_is_integer : Addr}
    (a_is_integer : PySem.W.nsIn K mainGlobals "is_integer" = some (some (.ref f_is_integer))) (l_is_integer : K.lookup f_is_integer = some ⟨oc_is_integer, od_is_integer, .func (PySem.W.fnOf "is_integer" "is_integer" (defArgs s_is_integer) (defBody s_is_integer) (defScope s_is_integer) .none kV_is_integer dc_is_integer pm_is_integer an_is_integer cd_is_integer ct_is_integer), sl_is_integer⟩) (o_is_integer : PySem.W.codeIn K cd_is_integer "is_integer" = true) (k_is_integer : PySem.W.keepIn K (.ref f_is_integer) = true)
    {od_are_integers an_are_integers : Option Addr} {sl_are_integers : Array (Option Value)} {oc_are_integers kV_are_integers dc_are_integers pm_are_integers cd_are_integers ct_are_integers : Value} {f_are_integers : Addr}
    (a_are_integers : PySem.W.nsIn K mainGlobals "are_integers" = some (some (.ref f_are_integers))) (l_are_integers : K.lookup f_are_integers = some ⟨oc_are_integers, od_are_integers, .func (PySem.W.fnOf "are_integers" "are_integers" (defArgs s_are_integers) (defBody s_are_integers) (defScope s_are_integers) .none kV_are_integers dc_are_integers pm_are_integers an_are_integers cd_are_integers ct_are_integers), sl_are_integers⟩) (o_are_integers : PySem.W.codeIn K cd_are_integers "are_integers" = true) (k_are_integers : PySem.W.keepIn K (.ref f_are_integers) = true)
    {od_require an_require : Option Addr} {sl_require : Array (Option Value)} {oc_require kV_require dc_require pm_require cd_require ct_require : Value} {f_require : Addr}
    (a_require : PySem.W.nsIn K mainGlobals "require" = some (some (.ref f_require))) (l_require : K.lookup f_require = some ⟨oc_require, od_require, .func (PySem.W.fnOf "require" "require" (defArgs s_require) (defBody s_require) (defScope s_require) .none kV_require dc_require pm_require an_require cd_require ct_require), sl_require⟩) (o_require : PySem.W.codeIn K cd_require "require" = true) (k_require : PySem.W.keepIn K (.ref f_require) = true)
    {od_is_allocation an_is_allocation : Option Addr} {sl_is_allocation : Array (Option Value)} {oc_is_allocation kV_is_allocation dc_is_allocation pm_is_allocation cd_is_allocation ct_is_allocation : Value} {f_is_allocation : Addr}
    (a_is_allocation : PySem.W.nsIn K mainGlobals "is_allocation" = some (some (.ref f_is_allocation))) (l_is_allocation : K.lookup f_is_allocation = some ⟨oc_is_allocation, od_is_allocation, .func (PySem.W.fnOf "is_allocation" "is_allocation" (defArgs s_is_allocation) (defBody s_is_allocation) (defScope s_is_allocation) .none kV_is_allocation dc_is_allocation pm_is_allocation an_is_allocation cd_is_allocation ct_is_allocation), sl_is_allocation⟩) (o_is_allocation : PySem.W.codeIn K cd_is_allocation "is_allocation" = true) (k_is_allocation : PySem.W.keepIn K (.ref f_is_allocation) = true)
    {od_is_bounded_allocation an_is_bounded_allocation : Option Addr} {sl_is_bounded_allocation : Array (Option Value)} {oc_is_bounded_allocation kV_is_bounded_allocation dc_is_bounded_allocation pm_is_bounded_allocation cd_is_bounded_allocation ct_is_bounded_allocation : Value} {f_is_bounded_allocation : Addr}
    (a_is_bounded_allocation : PySem.W.nsIn K mainGlobals "is_bounded_allocation" = some (some (.ref f_is_bounded_allocation))) (l_is_bounded_allocation : K.lookup f_is_bounded_allocation = some ⟨oc_is_bounded_allocation, od_is_bounded_allocation, .func (PySem.W.fnOf "is_bounded_allocation" "is_bounded_allocation" (defArgs s_is_bounded_allocation) (defBody s_is_bounded_allocation) (defScope s_is_bounded_allocation) .none kV_is_bounded_allocation dc_is_bounded_allocation pm_is_bounded_allocation an_is_bounded_allocation cd_is_bounded_allocation ct_is_bounded_allocation), sl_is_bounded_allocation⟩) (o_is_bounded_allocation : PySem.W.codeIn K cd_is_bounded_allocation "is_bounded_allocation" = true) (k_is_bounded_allocation : PySem.W.keepIn K (.ref f_is_bounded_allocation) = true)
    {od_are_allocations an_are_allocations : Option Addr} {sl_are_allocations : Array (Option Value)} {oc_are_allocations kV_are_allocations dc_are_allocations pm_are_allocations cd_are_allocations ct_are_allocations : Value} {f_are_allocations : Addr}
    (a_are_allocations : PySem.W.nsIn K mainGlobals "are_allocations" = some (some (.ref f_are_allocations))) (l_are_allocations : K.lookup f_are_allocations = some ⟨oc_are_allocations, od_are_allocations, .func (PySem.W.fnOf "are_allocations" "are_allocations" (defArgs s_are_allocations) (defBody s_are_allocations) (defScope s_are_allocations) .none kV_are_allocations dc_are_allocations pm_are_allocations an_are_allocations cd_are_allocations ct_are_allocations), sl_are_allocations⟩) (o_are_allocations : PySem.W.codeIn K cd_are_allocations "are_allocations" = true) (k_are_allocations : PySem.W.keepIn K (.ref f_are_allocations) = true)
    {od_is_assignment an_is_assignment : Option Addr} {sl_is_assignment : Array (Option Value)} {oc_is_assignment kV_is_assignment dc_is_assignment pm_is_assignment cd_is_assignment ct_is_assignment : Value} {f_is_assignment : Addr}
    (a_is_assignment : PySem.W.nsIn K mainGlobals "is_assignment" = some (some (.ref f_is_assignment))) (l_is_assignment : K.lookup f_is_assignment = some ⟨oc_is_assignment, od_is_assignment, .func (PySem.W.fnOf "is_assignment" "is_assignment" (defArgs s_is_assignment) (defBody s_is_assignment) (defScope s_is_assignment) .none kV_is_assignment dc_is_assignment pm_is_assignment an_is_assignment cd_is_assignment ct_is_assignment), sl_is_assignment⟩) (o_is_assignment : PySem.W.codeIn K cd_is_assignment "is_assignment" = true) (k_is_assignment : PySem.W.keepIn K (.ref f_is_assignment) = true)
    {od_is_bounded_assignment an_is_bounded_assignment : Option Addr} {sl_is_bounded_assignment : Array (Option Value)} {oc_is_bounded_assignment kV_is_bounded_assignment dc_is_bounded_assignment pm_is_bounded_assignment cd_is_bounded_assignment ct_is_bounded_assignment : Value} {f_is_bounded_assignment : Addr}
    (a_is_bounded_assignment : PySem.W.nsIn K mainGlobals "is_bounded_assignment" = some (some (.ref f_is_bounded_assignment))) (l_is_bounded_assignment : K.lookup f_is_bounded_assignment = some ⟨oc_is_bounded_assignment, od_is_bounded_assignment, .func (PySem.W.fnOf "is_bounded_assignment" "is_bounded_assignment" (defArgs s_is_bounded_assignment) (defBody s_is_bounded_assignment) (defScope s_is_bounded_assignment) .none kV_is_bounded_assignment dc_is_bounded_assignment pm_is_bounded_assignment an_is_bounded_assignment cd_is_bounded_assignment ct_is_bounded_assignment), sl_is_bounded_assignment⟩) (o_is_bounded_assignment : PySem.W.codeIn K cd_is_bounded_assignment "is_bounded_assignment" = true) (k_is_bounded_assignment : PySem.W.keepIn K (.ref f_is_bounded_assignment) = true)
    {od_check_assignment an_check_assignment : Option Addr} {sl_check_assignment : Array (Option Value)} {oc_check_assignment kV_check_assignment dc_check_assignment pm_check_assignment cd_check_assignment ct_check_assignment : Value} {f_check_assignment : Addr}
    (a_check_assignment : PySem.W.nsIn K mainGlobals "check_assignment" = some (some (.ref f_check_assignment))) (l_check_assignment : K.lookup f_check_assignment = some ⟨oc_check_assignment, od_check_assignment, .func (PySem.W.fnOf "check_assignment" "check_assignment" (defArgs s_check_assignment) (defBody s_check_assignment) (defScope s_check_assignment) .none kV_check_assignment dc_check_assignment pm_check_assignment an_check_assignment cd_check_assignment ct_check_assignment), sl_check_assignment⟩) (o_check_assignment : PySem.W.codeIn K cd_check_assignment "check_assignment" = true) (k_check_assignment : PySem.W.keepIn K (.ref f_check_assignment) = true)
    {od_check_enough an_check_enough : Option Addr} {sl_check_enough : Array (Option Value)} {oc_check_enough kV_check_enough dc_check_enough pm_check_enough cd_check_enough ct_check_enough : Value} {f_check_enough : Addr}
    (a_check_enough : PySem.W.nsIn K mainGlobals "check_enough" = some (some (.ref f_check_enough))) (l_check_enough : K.lookup f_check_enough = some ⟨oc_check_enough, od_check_enough, .func (PySem.W.fnOf "check_enough" "check_enough" (defArgs s_check_enough) (defBody s_check_enough) (defScope s_check_enough) .none kV_check_enough dc_check_enough pm_check_enough an_check_enough cd_check_enough ct_check_enough), sl_check_enough⟩) (o_check_enough : PySem.W.codeIn K cd_check_enough "check_enough" = true) (k_check_enough : PySem.W.keepIn K (.ref f_check_enough) = true)
    {od_allocation_of an_allocation_of : Option Addr} {sl_allocation_of : Array (Option Value)} {oc_allocation_of kV_allocation_of dc_allocation_of pm_allocation_of cd_allocation_of ct_allocation_of : Value} {f_allocation_of : Addr}
    (a_allocation_of : PySem.W.nsIn K mainGlobals "allocation_of" = some (some (.ref f_allocation_of))) (l_allocation_of : K.lookup f_allocation_of = some ⟨oc_allocation_of, od_allocation_of, .func (PySem.W.fnOf "allocation_of" "allocation_of" (defArgs s_allocation_of) (defBody s_allocation_of) (defScope s_allocation_of) .none kV_allocation_of dc_allocation_of pm_allocation_of an_allocation_of cd_allocation_of ct_allocation_of), sl_allocation_of⟩) (o_allocation_of : PySem.W.codeIn K cd_allocation_of "allocation_of" = true) (k_allocation_of : PySem.W.keepIn K (.ref f_allocation_of) = true)
    {od_is_assignment_of an_is_assignment_of : Option Addr} {sl_is_assignment_of : Array (Option Value)} {oc_is_assignment_of kV_is_assignment_of dc_is_assignment_of pm_is_assignment_of cd_is_assignment_of ct_is_assignment_of : Value} {f_is_assignment_of : Addr}
    (a_is_assignment_of : PySem.W.nsIn K mainGlobals "is_assignment_of" = some (some (.ref f_is_assignment_of))) (l_is_assignment_of : K.lookup f_is_assignment_of = some ⟨oc_is_assignment_of, od_is_assignment_of, .func (PySem.W.fnOf "is_assignment_of" "is_assignment_of" (defArgs s_is_assignment_of) (defBody s_is_assignment_of) (defScope s_is_assignment_of) .none kV_is_assignment_of dc_is_assignment_of pm_is_assignment_of an_is_assignment_of cd_is_assignment_of ct_is_assignment_of), sl_is_assignment_of⟩) (o_is_assignment_of : PySem.W.codeIn K cd_is_assignment_of "is_assignment_of" = true) (k_is_assignment_of : PySem.W.keepIn K (.ref f_is_assignment_of) = true)
    {od_are_assignments_of an_are_assignments_of : Option Addr} {sl_are_assignments_of : Array (Option Value)} {oc_are_assignments_of kV_are_assignments_of dc_are_assignments_of pm_are_assignments_of cd_are_assignments_of ct_are_assignments_of : Value} {f_are_assignments_of : Addr}
    (a_are_assignments_of : PySem.W.nsIn K mainGlobals "are_assignments_of" = some (some (.ref f_are_assignments_of))) (l_are_assignments_of : K.lookup f_are_assignments_of = some ⟨oc_are_assignments_of, od_are_assignments_of, .func (PySem.W.fnOf "are_assignments_of" "are_assignments_of" (defArgs s_are_assignments_of) (defBody s_are_assignments_of) (defScope s_are_assignments_of) .none kV_are_assignments_of dc_are_assignments_of pm_are_assignments_of an_are_assignments_of cd_are_assignments_of ct_are_assignments_of), sl_are_assignments_of⟩) (o_are_assignments_of : PySem.W.codeIn K cd_are_assignments_of "are_assignments_of" = true) (k_are_assignments_of : PySem.W.keepIn K (.ref f_are_assignments_of) = true)
    {od_is_pair an_is_pair : Option Addr} {sl_is_pair : Array (Option Value)} {oc_is_pair kV_is_pair dc_is_pair pm_is_pair cd_is_pair ct_is_pair : Value} {f_is_pair : Addr}
    (a_is_pair : PySem.W.nsIn K mainGlobals "is_pair" = some (some (.ref f_is_pair))) (l_is_pair : K.lookup f_is_pair = some ⟨oc_is_pair, od_is_pair, .func (PySem.W.fnOf "is_pair" "is_pair" (defArgs s_is_pair) (defBody s_is_pair) (defScope s_is_pair) .none kV_is_pair dc_is_pair pm_is_pair an_is_pair cd_is_pair ct_is_pair), sl_is_pair⟩) (o_is_pair : PySem.W.codeIn K cd_is_pair "is_pair" = true) (k_is_pair : PySem.W.keepIn K (.ref f_is_pair) = true)
    {od_are_pairs an_are_pairs : Option Addr} {sl_are_pairs : Array (Option Value)} {oc_are_pairs kV_are_pairs dc_are_pairs pm_are_pairs cd_are_pairs ct_are_pairs : Value} {f_are_pairs : Addr}
    (a_are_pairs : PySem.W.nsIn K mainGlobals "are_pairs" = some (some (.ref f_are_pairs))) (l_are_pairs : K.lookup f_are_pairs = some ⟨oc_are_pairs, od_are_pairs, .func (PySem.W.fnOf "are_pairs" "are_pairs" (defArgs s_are_pairs) (defBody s_are_pairs) (defScope s_are_pairs) .none kV_are_pairs dc_are_pairs pm_are_pairs an_are_pairs cd_are_pairs ct_are_pairs), sl_are_pairs⟩) (o_are_pairs : PySem.W.codeIn K cd_are_pairs "are_pairs" = true) (k_are_pairs : PySem.W.keepIn K (.ref f_are_pairs) = true)
    {od_check_plan an_check_plan : Option Addr} {sl_check_plan : Array (Option Value)} {oc_check_plan kV_check_plan dc_check_plan pm_check_plan cd_check_plan ct_check_plan : Value} {f_check_plan : Addr}
    (a_check_plan : PySem.W.nsIn K mainGlobals "check_plan" = some (some (.ref f_check_plan))) (l_check_plan : K.lookup f_check_plan = some ⟨oc_check_plan, od_check_plan, .func (PySem.W.fnOf "check_plan" "check_plan" (defArgs s_check_plan) (defBody s_check_plan) (defScope s_check_plan) .none kV_check_plan dc_check_plan pm_check_plan an_check_plan cd_check_plan ct_check_plan), sl_check_plan⟩) (o_check_plan : PySem.W.codeIn K cd_check_plan "check_plan" = true) (k_check_plan : PySem.W.keepIn K (.ref f_check_plan) = true)
    {od_is_wasted an_is_wasted : Option Addr} {sl_is_wasted : Array (Option Value)} {oc_is_wasted kV_is_wasted dc_is_wasted pm_is_wasted cd_is_wasted ct_is_wasted : Value} {f_is_wasted : Addr}
    (a_is_wasted : PySem.W.nsIn K mainGlobals "is_wasted" = some (some (.ref f_is_wasted))) (l_is_wasted : K.lookup f_is_wasted = some ⟨oc_is_wasted, od_is_wasted, .func (PySem.W.fnOf "is_wasted" "is_wasted" (defArgs s_is_wasted) (defBody s_is_wasted) (defScope s_is_wasted) .none kV_is_wasted dc_is_wasted pm_is_wasted an_is_wasted cd_is_wasted ct_is_wasted), sl_is_wasted⟩) (o_is_wasted : PySem.W.codeIn K cd_is_wasted "is_wasted" = true) (k_is_wasted : PySem.W.keepIn K (.ref f_is_wasted) = true)
    {od_keeps an_keeps : Option Addr} {sl_keeps : Array (Option Value)} {oc_keeps kV_keeps dc_keeps pm_keeps cd_keeps ct_keeps : Value} {f_keeps : Addr}
    (a_keeps : PySem.W.nsIn K mainGlobals "keeps" = some (some (.ref f_keeps))) (l_keeps : K.lookup f_keeps = some ⟨oc_keeps, od_keeps, .func (PySem.W.fnOf "keeps" "keeps" (defArgs s_keeps) (defBody s_keeps) (defScope s_keeps) .none kV_keeps dc_keeps pm_keeps an_keeps cd_keeps ct_keeps), sl_keeps⟩) (o_keeps : PySem.W.codeIn K cd_keeps "keeps" = true) (k_keeps : PySem.W.keepIn K (.ref f_keeps) = true)
    {od_kept_by an_kept_by : Option Addr} {sl_kept_by : Array (Option Value)} {oc_kept_by kV_kept_by dc_kept_by pm_kept_by cd_kept_by ct_kept_by : Value} {f_kept_by : Addr}
    (a_kept_by : PySem.W.nsIn K mainGlobals "kept_by" = some (some (.ref f_kept_by))) (l_kept_by : K.lookup f_kept_by = some ⟨oc_kept_by, od_kept_by, .func (PySem.W.fnOf "kept_by" "kept_by" (defArgs s_kept_by) (defBody s_kept_by) (defScope s_kept_by) .none kV_kept_by dc_kept_by pm_kept_by an_kept_by cd_kept_by ct_kept_by), sl_kept_by⟩) (o_kept_by : PySem.W.codeIn K cd_kept_by "kept_by" = true) (k_kept_by : PySem.W.keepIn K (.ref f_kept_by) = true)
    {od_kept_pairs an_kept_pairs : Option Addr} {sl_kept_pairs : Array (Option Value)} {oc_kept_pairs kV_kept_pairs dc_kept_pairs pm_kept_pairs cd_kept_pairs ct_kept_pairs : Value} {f_kept_pairs : Addr}
    (a_kept_pairs : PySem.W.nsIn K mainGlobals "kept_pairs" = some (some (.ref f_kept_pairs))) (l_kept_pairs : K.lookup f_kept_pairs = some ⟨oc_kept_pairs, od_kept_pairs, .func (PySem.W.fnOf "kept_pairs" "kept_pairs" (defArgs s_kept_pairs) (defBody s_kept_pairs) (defScope s_kept_pairs) .none kV_kept_pairs dc_kept_pairs pm_kept_pairs an_kept_pairs cd_kept_pairs ct_kept_pairs), sl_kept_pairs⟩) (o_kept_pairs : PySem.W.codeIn K cd_kept_pairs "kept_pairs" = true) (k_kept_pairs : PySem.W.keepIn K (.ref f_kept_pairs) = true)
    {od__law_stream an__law_stream : Option Addr} {sl__law_stream : Array (Option Value)} {oc__law_stream kV__law_stream dc__law_stream pm__law_stream cd__law_stream ct__law_stream : Value} {f__law_stream : Addr}
    (a__law_stream : PySem.W.nsIn K mainGlobals "_law_stream" = some (some (.ref f__law_stream))) (l__law_stream : K.lookup f__law_stream = some ⟨oc__law_stream, od__law_stream, .func (PySem.W.fnOf "_law_stream" "_law_stream" (defArgs s__law_stream) (defBody s__law_stream) (defScope s__law_stream) .none kV__law_stream dc__law_stream pm__law_stream an__law_stream cd__law_stream ct__law_stream), sl__law_stream⟩) (o__law_stream : PySem.W.codeIn K cd__law_stream "_law_stream" = true) (k__law_stream : PySem.W.keepIn K (.ref f__law_stream) = true)
    {od__law_next an__law_next : Option Addr} {sl__law_next : Array (Option Value)} {oc__law_next kV__law_next dc__law_next pm__law_next cd__law_next ct__law_next : Value} {f__law_next : Addr}
    (a__law_next : PySem.W.nsIn K mainGlobals "_law_next" = some (some (.ref f__law_next))) (l__law_next : K.lookup f__law_next = some ⟨oc__law_next, od__law_next, .func (PySem.W.fnOf "_law_next" "_law_next" (defArgs s__law_next) (defBody s__law_next) (defScope s__law_next) .none kV__law_next dc__law_next pm__law_next an__law_next cd__law_next ct__law_next), sl__law_next⟩) (o__law_next : PySem.W.codeIn K cd__law_next "_law_next" = true) (k__law_next : PySem.W.keepIn K (.ref f__law_next) = true)
    {od__law_is_integer an__law_is_integer : Option Addr} {sl__law_is_integer : Array (Option Value)} {oc__law_is_integer kV__law_is_integer dc__law_is_integer pm__law_is_integer cd__law_is_integer ct__law_is_integer : Value} {f__law_is_integer : Addr}
    (a__law_is_integer : PySem.W.nsIn K mainGlobals "_law_is_integer" = some (some (.ref f__law_is_integer))) (l__law_is_integer : K.lookup f__law_is_integer = some ⟨oc__law_is_integer, od__law_is_integer, .func (PySem.W.fnOf "_law_is_integer" "_law_is_integer" (defArgs s__law_is_integer) (defBody s__law_is_integer) (defScope s__law_is_integer) .none kV__law_is_integer dc__law_is_integer pm__law_is_integer an__law_is_integer cd__law_is_integer ct__law_is_integer), sl__law_is_integer⟩) (o__law_is_integer : PySem.W.codeIn K cd__law_is_integer "_law_is_integer" = true) (k__law_is_integer : PySem.W.keepIn K (.ref f__law_is_integer) = true)
    {od__law_equal an__law_equal : Option Addr} {sl__law_equal : Array (Option Value)} {oc__law_equal kV__law_equal dc__law_equal pm__law_equal cd__law_equal ct__law_equal : Value} {f__law_equal : Addr}
    (a__law_equal : PySem.W.nsIn K mainGlobals "_law_equal" = some (some (.ref f__law_equal))) (l__law_equal : K.lookup f__law_equal = some ⟨oc__law_equal, od__law_equal, .func (PySem.W.fnOf "_law_equal" "_law_equal" (defArgs s__law_equal) (defBody s__law_equal) (defScope s__law_equal) .none kV__law_equal dc__law_equal pm__law_equal an__law_equal cd__law_equal ct__law_equal), sl__law_equal⟩) (o__law_equal : PySem.W.codeIn K cd__law_equal "_law_equal" = true) (k__law_equal : PySem.W.keepIn K (.ref f__law_equal) = true)
    {od__law_allocation an__law_allocation : Option Addr} {sl__law_allocation : Array (Option Value)} {oc__law_allocation kV__law_allocation dc__law_allocation pm__law_allocation cd__law_allocation ct__law_allocation : Value} {f__law_allocation : Addr}
    (a__law_allocation : PySem.W.nsIn K mainGlobals "_law_allocation" = some (some (.ref f__law_allocation))) (l__law_allocation : K.lookup f__law_allocation = some ⟨oc__law_allocation, od__law_allocation, .func (PySem.W.fnOf "_law_allocation" "_law_allocation" (defArgs s__law_allocation) (defBody s__law_allocation) (defScope s__law_allocation) .none kV__law_allocation dc__law_allocation pm__law_allocation an__law_allocation cd__law_allocation ct__law_allocation), sl__law_allocation⟩) (o__law_allocation : PySem.W.codeIn K cd__law_allocation "_law_allocation" = true) (k__law_allocation : PySem.W.keepIn K (.ref f__law_allocation) = true)
    {od__law_near an__law_near : Option Addr} {sl__law_near : Array (Option Value)} {oc__law_near kV__law_near dc__law_near pm__law_near cd__law_near ct__law_near : Value} {f__law_near : Addr}
    (a__law_near : PySem.W.nsIn K mainGlobals "_law_near" = some (some (.ref f__law_near))) (l__law_near : K.lookup f__law_near = some ⟨oc__law_near, od__law_near, .func (PySem.W.fnOf "_law_near" "_law_near" (defArgs s__law_near) (defBody s__law_near) (defScope s__law_near) .none kV__law_near dc__law_near pm__law_near an__law_near cd__law_near ct__law_near), sl__law_near⟩) (o__law_near : PySem.W.codeIn K cd__law_near "_law_near" = true) (k__law_near : PySem.W.keepIn K (.ref f__law_near) = true)
    {od__law_series an__law_series : Option Addr} {sl__law_series : Array (Option Value)} {oc__law_series kV__law_series dc__law_series pm__law_series cd__law_series ct__law_series : Value} {f__law_series : Addr}
    (a__law_series : PySem.W.nsIn K mainGlobals "_law_series" = some (some (.ref f__law_series))) (l__law_series : K.lookup f__law_series = some ⟨oc__law_series, od__law_series, .func (PySem.W.fnOf "_law_series" "_law_series" (defArgs s__law_series) (defBody s__law_series) (defScope s__law_series) .none kV__law_series dc__law_series pm__law_series an__law_series cd__law_series ct__law_series), sl__law_series⟩) (o__law_series : PySem.W.codeIn K cd__law_series "_law_series" = true) (k__law_series : PySem.W.keepIn K (.ref f__law_series) = true)
    {od__law_sorted an__law_sorted : Option Addr} {sl__law_sorted : Array (Option Value)} {oc__law_sorted kV__law_sorted dc__law_sorted pm__law_sorted cd__law_sorted ct__law_sorted : Value} {f__law_sorted : Addr}
    (a__law_sorted : PySem.W.nsIn K mainGlobals "_law_sorted" = some (some (.ref f__law_sorted))) (l__law_sorted : K.lookup f__law_sorted = some ⟨oc__law_sorted, od__law_sorted, .func (PySem.W.fnOf "_law_sorted" "_law_sorted" (defArgs s__law_sorted) (defBody s__law_sorted) (defScope s__law_sorted) .none kV__law_sorted dc__law_sorted pm__law_sorted an__law_sorted cd__law_sorted ct__law_sorted), sl__law_sorted⟩) (o__law_sorted : PySem.W.codeIn K cd__law_sorted "_law_sorted" = true) (k__law_sorted : PySem.W.keepIn K (.ref f__law_sorted) = true)
    {od__law_transfer an__law_transfer : Option Addr} {sl__law_transfer : Array (Option Value)} {oc__law_transfer kV__law_transfer dc__law_transfer pm__law_transfer cd__law_transfer ct__law_transfer : Value} {f__law_transfer : Addr}
    (a__law_transfer : PySem.W.nsIn K mainGlobals "_law_transfer" = some (some (.ref f__law_transfer))) (l__law_transfer : K.lookup f__law_transfer = some ⟨oc__law_transfer, od__law_transfer, .func (PySem.W.fnOf "_law_transfer" "_law_transfer" (defArgs s__law_transfer) (defBody s__law_transfer) (defScope s__law_transfer) .none kV__law_transfer dc__law_transfer pm__law_transfer an__law_transfer cd__law_transfer ct__law_transfer), sl__law_transfer⟩) (o__law_transfer : PySem.W.codeIn K cd__law_transfer "_law_transfer" = true) (k__law_transfer : PySem.W.keepIn K (.ref f__law_transfer) = true)
    {od__law_churn an__law_churn : Option Addr} {sl__law_churn : Array (Option Value)} {oc__law_churn kV__law_churn dc__law_churn pm__law_churn cd__law_churn ct__law_churn : Value} {f__law_churn : Addr}
    (a__law_churn : PySem.W.nsIn K mainGlobals "_law_churn" = some (some (.ref f__law_churn))) (l__law_churn : K.lookup f__law_churn = some ⟨oc__law_churn, od__law_churn, .func (PySem.W.fnOf "_law_churn" "_law_churn" (defArgs s__law_churn) (defBody s__law_churn) (defScope s__law_churn) .none kV__law_churn dc__law_churn pm__law_churn an__law_churn cd__law_churn ct__law_churn), sl__law_churn⟩) (o__law_churn : PySem.W.codeIn K cd__law_churn "_law_churn" = true) (k__law_churn : PySem.W.keepIn K (.ref f__law_churn) = true)
    {od__law_drawn an__law_drawn : Option Addr} {sl__law_drawn : Array (Option Value)} {oc__law_drawn kV__law_drawn dc__law_drawn pm__law_drawn cd__law_drawn ct__law_drawn : Value} {f__law_drawn : Addr}
    (a__law_drawn : PySem.W.nsIn K mainGlobals "_law_drawn" = some (some (.ref f__law_drawn))) (l__law_drawn : K.lookup f__law_drawn = some ⟨oc__law_drawn, od__law_drawn, .func (PySem.W.fnOf "_law_drawn" "_law_drawn" (defArgs s__law_drawn) (defBody s__law_drawn) (defScope s__law_drawn) .none kV__law_drawn dc__law_drawn pm__law_drawn an__law_drawn cd__law_drawn ct__law_drawn), sl__law_drawn⟩) (o__law_drawn : PySem.W.codeIn K cd__law_drawn "_law_drawn" = true) (k__law_drawn : PySem.W.keepIn K (.ref f__law_drawn) = true)
    {od__law_all_pairs an__law_all_pairs : Option Addr} {sl__law_all_pairs : Array (Option Value)} {oc__law_all_pairs kV__law_all_pairs dc__law_all_pairs pm__law_all_pairs cd__law_all_pairs ct__law_all_pairs : Value} {f__law_all_pairs : Addr}
    (a__law_all_pairs : PySem.W.nsIn K mainGlobals "_law_all_pairs" = some (some (.ref f__law_all_pairs))) (l__law_all_pairs : K.lookup f__law_all_pairs = some ⟨oc__law_all_pairs, od__law_all_pairs, .func (PySem.W.fnOf "_law_all_pairs" "_law_all_pairs" (defArgs s__law_all_pairs) (defBody s__law_all_pairs) (defScope s__law_all_pairs) .none kV__law_all_pairs dc__law_all_pairs pm__law_all_pairs an__law_all_pairs cd__law_all_pairs ct__law_all_pairs), sl__law_all_pairs⟩) (o__law_all_pairs : PySem.W.codeIn K cd__law_all_pairs "_law_all_pairs" = true) (k__law_all_pairs : PySem.W.keepIn K (.ref f__law_all_pairs) = true)
    {od__law_pairs an__law_pairs : Option Addr} {sl__law_pairs : Array (Option Value)} {oc__law_pairs kV__law_pairs dc__law_pairs pm__law_pairs cd__law_pairs ct__law_pairs : Value} {f__law_pairs : Addr}
    (a__law_pairs : PySem.W.nsIn K mainGlobals "_law_pairs" = some (some (.ref f__law_pairs))) (l__law_pairs : K.lookup f__law_pairs = some ⟨oc__law_pairs, od__law_pairs, .func (PySem.W.fnOf "_law_pairs" "_law_pairs" (defArgs s__law_pairs) (defBody s__law_pairs) (defScope s__law_pairs) .none kV__law_pairs dc__law_pairs pm__law_pairs an__law_pairs cd__law_pairs ct__law_pairs), sl__law_pairs⟩) (o__law_pairs : PySem.W.codeIn K cd__law_pairs "_law_pairs" = true) (k__law_pairs : PySem.W.keepIn K (.ref f__law_pairs) = true)
    {od__law_kept an__law_kept : Option Addr} {sl__law_kept : Array (Option Value)} {oc__law_kept kV__law_kept dc__law_kept pm__law_kept cd__law_kept ct__law_kept : Value} {f__law_kept : Addr}
    (a__law_kept : PySem.W.nsIn K mainGlobals "_law_kept" = some (some (.ref f__law_kept))) (l__law_kept : K.lookup f__law_kept = some ⟨oc__law_kept, od__law_kept, .func (PySem.W.fnOf "_law_kept" "_law_kept" (defArgs s__law_kept) (defBody s__law_kept) (defScope s__law_kept) .none kV__law_kept dc__law_kept pm__law_kept an__law_kept cd__law_kept ct__law_kept), sl__law_kept⟩) (o__law_kept : PySem.W.codeIn K cd__law_kept "_law_kept" = true) (k__law_kept : PySem.W.keepIn K (.ref f__law_kept) = true)
    {od__law_change an__law_change : Option Addr} {sl__law_change : Array (Option Value)} {oc__law_change kV__law_change dc__law_change pm__law_change cd__law_change ct__law_change : Value} {f__law_change : Addr}
    (a__law_change : PySem.W.nsIn K mainGlobals "_law_change" = some (some (.ref f__law_change))) (l__law_change : K.lookup f__law_change = some ⟨oc__law_change, od__law_change, .func (PySem.W.fnOf "_law_change" "_law_change" (defArgs s__law_change) (defBody s__law_change) (defScope s__law_change) .none kV__law_change dc__law_change pm__law_change an__law_change cd__law_change ct__law_change), sl__law_change⟩) (o__law_change : PySem.W.codeIn K cd__law_change "_law_change" = true) (k__law_change : PySem.W.keepIn K (.ref f__law_change) = true)
    {od_law an_law : Option Addr} {sl_law : Array (Option Value)} {oc_law kV_law dc_law pm_law cd_law ct_law : Value} {f_law : Addr}
    (a_law : PySem.W.nsIn K mainGlobals "law" = some (some (.ref f_law))) (l_law : K.lookup f_law = some ⟨oc_law, od_law, .func (PySem.W.fnOf "law" "law" (defArgs s_law) (defBody s_law) (defScope s_law) .none kV_law dc_law pm_law an_law cd_law ct_law), sl_law⟩) (o_law : PySem.W.codeIn K cd_law "law" = true) (k_law : PySem.W.keepIn K (.ref f_law) = true)
    (z_abs : PySem.W.nsIn K mainGlobals "abs" = some none)
    (z_all : PySem.W.nsIn K mainGlobals "all" = some none)
    (z_any : PySem.W.nsIn K mainGlobals "any" = some none)
    (z_bool : PySem.W.nsIn K mainGlobals "bool" = some none)
    (z_enumerate : PySem.W.nsIn K mainGlobals "enumerate" = some none)
    (z_int : PySem.W.nsIn K mainGlobals "int" = some none)
    (z_isinstance : PySem.W.nsIn K mainGlobals "isinstance" = some none)
    (z_len : PySem.W.nsIn K mainGlobals "len" = some none)
    (z_list : PySem.W.nsIn K mainGlobals "list" = some none)
    (z_max : PySem.W.nsIn K mainGlobals "max" = some none)
    (z_min : PySem.W.nsIn K mainGlobals "min" = some none)
    (z_range : PySem.W.nsIn K mainGlobals "range" = some none)
    (z_set : PySem.W.nsIn K mainGlobals "set" = some none)
    (z_str : PySem.W.nsIn K mainGlobals "str" = some none)
    (z_sum : PySem.W.nsIn K mainGlobals "sum" = some none)
    (z_tuple : PySem.W.nsIn K mainGlobals "tuple" = some none)
    (z_zip : PySem.W.nsIn K mainGlobals "zip" = some none)
    {tk_MOST_VARIANTS : Tok} (g_MOST_VARIANTS : PySem.W.nsIn K mainGlobals "MOST_VARIANTS" = some (some (.int 5 tk_MOST_VARIANTS)))
    {tk_MOST_BUCKETS : Tok} (g_MOST_BUCKETS : PySem.W.nsIn K mainGlobals "MOST_BUCKETS" = some (some (.int 20 tk_MOST_BUCKETS)))
    {tk_MOST_ALLOCATIONS : Tok} (g_MOST_ALLOCATIONS : PySem.W.nsIn K mainGlobals "MOST_ALLOCATIONS" = some (some (.int 6 tk_MOST_ALLOCATIONS))) :
    ∃ fd : FuncData, (∀ (s : Shared) (v : Value), BindsTo s fd ⟨[v], []⟩ [("script", v)]) ∧ ∀ base : Heap, K.In base → base.Ns mainGlobals mg → FnOk l.prog w K mg base CX0 11 fa fd ["script"] (spLaw K) := by
  have e := hfa.symm.trans (PySem.W.mg_of X G a_law)
  cases e
  have T : Txt mg := { b_abs := PySem.W.mg_none_of X G z_abs, b_all := PySem.W.mg_none_of X G z_all, b_any := PySem.W.mg_none_of X G z_any, b_bool := PySem.W.mg_none_of X G z_bool, b_enumerate := PySem.W.mg_none_of X G z_enumerate, b_int := PySem.W.mg_none_of X G z_int, b_isinstance := PySem.W.mg_none_of X G z_isinstance, b_len := PySem.W.mg_none_of X G z_len, b_list := PySem.W.mg_none_of X G z_list, b_max := PySem.W.mg_none_of X G z_max, b_min := PySem.W.mg_none_of X G z_min, b_range := PySem.W.mg_none_of X G z_range, b_set := PySem.W.mg_none_of X G z_set, b_str := PySem.W.mg_none_of X G z_str, b_sum := PySem.W.mg_none_of X G z_sum, b_tuple := PySem.W.mg_none_of X G z_tuple, b_zip := PySem.W.mg_none_of X G z_zip, k_MOST_VARIANTS := ⟨_, PySem.W.mg_of X G g_MOST_VARIANTS⟩, k_MOST_BUCKETS := ⟨_, PySem.W.mg_of X G g_MOST_BUCKETS⟩, k_MOST_ALLOCATIONS := ⟨_, PySem.W.mg_of X G g_MOST_ALLOCATIONS⟩ }
  have F_is_integer := fun_mk (st := s_is_integer) l_is_integer o_is_integer k_is_integer
  have b_is_integer := F_is_integer.binds (ps := p_is_integer) fun _ _ _ _ _ _ us hl => match us, hl with | [_, _, _], _ => rfl
  have m_is_integer := PySem.W.mg_of X G a_is_integer
  have F_are_integers := fun_mk (st := s_are_integers) l_are_integers o_are_integers k_are_integers
  have b_are_integers := F_are_integers.binds (ps := p_are_integers) fun _ _ _ _ _ _ us hl => match us, hl with | [_, _, _], _ => rfl
  have m_are_integers := PySem.W.mg_of X G a_are_integers
  have F_require := fun_mk (st := s_require) l_require o_require k_require
  have b_require := F_require.binds (ps := p_require) fun _ _ _ _ _ _ us hl => match us, hl with | [_, _], _ => rfl
  have m_require := PySem.W.mg_of X G a_require
  have F_is_allocation := fun_mk (st := s_is_allocation) l_is_allocation o_is_allocation k_is_allocation
  have b_is_allocation := F_is_allocation.binds (ps := p_is_allocation) fun _ _ _ _ _ _ us hl => match us, hl with | [_, _, _], _ => rfl
  have m_is_allocation := PySem.W.mg_of X G a_is_allocation
  have F_is_bounded_allocation := fun_mk (st := s_is_bounded_allocation) l_is_bounded_allocation o_is_bounded_allocation k_is_bounded_allocation
  have b_is_bounded_allocation := F_is_bounded_allocation.binds (ps := p_is_bounded_allocation) fun _ _ _ _ _ _ us hl => match us, hl with | [_], _ => rfl
  have m_is_bounded_allocation := PySem.W.mg_of X G a_is_bounded_allocation
  have F_are_allocations := fun_mk (st := s_are_allocations) l_are_allocations o_are_allocations k_are_allocations
  have b_are_allocations := F_are_allocations.binds (ps := p_are_allocations) fun _ _ _ _ _ _ us hl => match us, hl with | [_, _], _ => rfl
  have m_are_allocations := PySem.W.mg_of X G a_are_allocations
  have F_is_assignment := fun_mk (st := s_is_assignment) l_is_assignment o_is_assignment k_is_assignment
  have b_is_assignment := F_is_assignment.binds (ps := p_is_assignment) fun _ _ _ _ _ _ us hl => match us, hl with | [_, _, _], _ => rfl
  have m_is_assignment := PySem.W.mg_of X G a_is_assignment
  have F_is_bounded_assignment := fun_mk (st := s_is_bounded_assignment) l_is_bounded_assignment o_is_bounded_assignment k_is_bounded_assignment
  have b_is_bounded_assignment := F_is_bounded_assignment.binds (ps := p_is_bounded_assignment) fun _ _ _ _ _ _ us hl => match us, hl with | [_, _], _ => rfl
  have m_is_bounded_assignment := PySem.W.mg_of X G a_is_bounded_assignment
  have F_check_assignment := fun_mk (st := s_check_assignment) l_check_assignment o_check_assignment k_check_assignment
  have b_check_assignment := F_check_assignment.binds (ps := p_check_assignment) fun _ _ _ _ _ _ us hl => match us, hl with | [_, _], _ => rfl
  have m_check_assignment := PySem.W.mg_of X G a_check_assignment
  have F_check_enough := fun_mk (st := s_check_enough) l_check_enough o_check_enough k_check_enough
  have b_check_enough := F_check_enough.binds (ps := p_check_enough) fun _ _ _ _ _ _ us hl => match us, hl with | [_, _], _ => rfl
  have m_check_enough := PySem.W.mg_of X G a_check_enough
  have F_allocation_of := fun_mk (st := s_allocation_of) l_allocation_of o_allocation_of k_allocation_of
  have b_allocation_of := F_allocation_of.binds (ps := p_allocation_of) fun _ _ _ _ _ _ us hl => match us, hl with | [_, _], _ => rfl
  have m_allocation_of := PySem.W.mg_of X G a_allocation_of
  have F_is_assignment_of := fun_mk (st := s_is_assignment_of) l_is_assignment_of o_is_assignment_of k_is_assignment_of
  have b_is_assignment_of := F_is_assignment_of.binds (ps := p_is_assignment_of) fun _ _ _ _ _ _ us hl => match us, hl with | [_, _], _ => rfl
  have m_is_assignment_of := PySem.W.mg_of X G a_is_assignment_of
  have F_are_assignments_of := fun_mk (st := s_are_assignments_of) l_are_assignments_of o_are_assignments_of k_are_assignments_of
  have b_are_assignments_of := F_are_assignments_of.binds (ps := p_are_assignments_of) fun _ _ _ _ _ _ us hl => match us, hl with | [_, _], _ => rfl
  have m_are_assignments_of := PySem.W.mg_of X G a_are_assignments_of
  have F_is_pair := fun_mk (st := s_is_pair) l_is_pair o_is_pair k_is_pair
  have b_is_pair := F_is_pair.binds (ps := p_is_pair) fun _ _ _ _ _ _ us hl => match us, hl with | [_, _], _ => rfl
  have m_is_pair := PySem.W.mg_of X G a_is_pair
  have F_are_pairs := fun_mk (st := s_are_pairs) l_are_pairs o_are_pairs k_are_pairs
  have b_are_pairs := F_are_pairs.binds (ps := p_are_pairs) fun _ _ _ _ _ _ us hl => match us, hl with | [_, _], _ => rfl
  have m_are_pairs := PySem.W.mg_of X G a_are_pairs
  have F_check_plan := fun_mk (st := s_check_plan) l_check_plan o_check_plan k_check_plan
  have b_check_plan := F_check_plan.binds (ps := p_check_plan) fun _ _ _ _ _ _ us hl => match us, hl with | [_, _], _ => rfl
  have m_check_plan := PySem.W.mg_of X G a_check_plan
  have F_is_wasted := fun_mk (st := s_is_wasted) l_is_wasted o_is_wasted k_is_wasted
  have b_is_wasted := F_is_wasted.binds (ps := p_is_wasted) fun _ _ _ _ _ _ us hl => match us, hl with | [_, _, _, _], _ => rfl
  have m_is_wasted := PySem.W.mg_of X G a_is_wasted
  have F_keeps := fun_mk (st := s_keeps) l_keeps o_keeps k_keeps
  have b_keeps := F_keeps.binds (ps := p_keeps) fun _ _ _ _ _ _ us hl => match us, hl with | [_, _, _], _ => rfl
  have m_keeps := PySem.W.mg_of X G a_keeps
  have F_kept_by := fun_mk (st := s_kept_by) l_kept_by o_kept_by k_kept_by
  have b_kept_by := F_kept_by.binds (ps := p_kept_by) fun _ _ _ _ _ _ us hl => match us, hl with | [_, _, _], _ => rfl
  have m_kept_by := PySem.W.mg_of X G a_kept_by
  have F_kept_pairs := fun_mk (st := s_kept_pairs) l_kept_pairs o_kept_pairs k_kept_pairs
  have b_kept_pairs := F_kept_pairs.binds (ps := p_kept_pairs) fun _ _ _ _ _ _ us hl => match us, hl with | [_, _, _], _ => rfl
  have m_kept_pairs := PySem.W.mg_of X G a_kept_pairs
  have F__law_stream := fun_mk (st := s__law_stream) l__law_stream o__law_stream k__law_stream
  have b__law_stream := F__law_stream.binds (ps := p__law_stream) fun _ _ _ _ _ _ us hl => match us, hl with | [_], _ => rfl
  have m__law_stream := PySem.W.mg_of X G a__law_stream
  have F__law_next := fun_mk (st := s__law_next) l__law_next o__law_next k__law_next
  have b__law_next := F__law_next.binds (ps := p__law_next) fun _ _ _ _ _ _ us hl => match us, hl with | [_, _], _ => rfl
  have m__law_next := PySem.W.mg_of X G a__law_next
  have F__law_is_integer := fun_mk (st := s__law_is_integer) l__law_is_integer o__law_is_integer k__law_is_integer
  have b__law_is_integer := F__law_is_integer.binds (ps := p__law_is_integer) fun _ _ _ _ _ _ us hl => match us, hl with | [_], _ => rfl
  have m__law_is_integer := PySem.W.mg_of X G a__law_is_integer
  have F__law_equal := fun_mk (st := s__law_equal) l__law_equal o__law_equal k__law_equal
  have b__law_equal := F__law_equal.binds (ps := p__law_equal) fun _ _ _ _ _ _ us hl => match us, hl with | [_, _], _ => rfl
  have m__law_equal := PySem.W.mg_of X G a__law_equal
  have F__law_allocation := fun_mk (st := s__law_allocation) l__law_allocation o__law_allocation k__law_allocation
  have b__law_allocation := F__law_allocation.binds (ps := p__law_allocation) fun _ _ _ _ _ _ us hl => match us, hl with | [_, _, _], _ => rfl
  have m__law_allocation := PySem.W.mg_of X G a__law_allocation
  have F__law_near := fun_mk (st := s__law_near) l__law_near o__law_near k__law_near
  have b__law_near := F__law_near.binds (ps := p__law_near) fun _ _ _ _ _ _ us hl => match us, hl with | [_, _], _ => rfl
  have m__law_near := PySem.W.mg_of X G a__law_near
  have F__law_series := fun_mk (st := s__law_series) l__law_series o__law_series k__law_series
  have b__law_series := F__law_series.binds (ps := p__law_series) fun _ _ _ _ _ _ us hl => match us, hl with | [_, _, _, _], _ => rfl
  have m__law_series := PySem.W.mg_of X G a__law_series
  have F__law_sorted := fun_mk (st := s__law_sorted) l__law_sorted o__law_sorted k__law_sorted
  have b__law_sorted := F__law_sorted.binds (ps := p__law_sorted) fun _ _ _ _ _ _ us hl => match us, hl with | [_], _ => rfl
  have m__law_sorted := PySem.W.mg_of X G a__law_sorted
  have F__law_transfer := fun_mk (st := s__law_transfer) l__law_transfer o__law_transfer k__law_transfer
  have b__law_transfer := F__law_transfer.binds (ps := p__law_transfer) fun _ _ _ _ _ _ us hl => match us, hl with | [_, _], _ => rfl
  have m__law_transfer := PySem.W.mg_of X G a__law_transfer
  have F__law_churn := fun_mk (st := s__law_churn) l__law_churn o__law_churn k__law_churn
  have b__law_churn := F__law_churn.binds (ps := p__law_churn) fun _ _ _ _ _ _ us hl => match us, hl with | [_, _], _ => rfl
  have m__law_churn := PySem.W.mg_of X G a__law_churn
  have F__law_drawn := fun_mk (st := s__law_drawn) l__law_drawn o__law_drawn k__law_drawn
  have b__law_drawn := F__law_drawn.binds (ps := p__law_drawn) fun _ _ _ _ _ _ us hl => match us, hl with | [_, _], _ => rfl
  have m__law_drawn := PySem.W.mg_of X G a__law_drawn
  have F__law_all_pairs := fun_mk (st := s__law_all_pairs) l__law_all_pairs o__law_all_pairs k__law_all_pairs
  have b__law_all_pairs := F__law_all_pairs.binds (ps := p__law_all_pairs) fun _ _ _ _ _ _ us hl => match us, hl with | [_], _ => rfl
  have m__law_all_pairs := PySem.W.mg_of X G a__law_all_pairs
  have F__law_pairs := fun_mk (st := s__law_pairs) l__law_pairs o__law_pairs k__law_pairs
  have b__law_pairs := F__law_pairs.binds (ps := p__law_pairs) fun _ _ _ _ _ _ us hl => match us, hl with | [_, _, _], _ => rfl
  have m__law_pairs := PySem.W.mg_of X G a__law_pairs
  have F__law_kept := fun_mk (st := s__law_kept) l__law_kept o__law_kept k__law_kept
  have b__law_kept := F__law_kept.binds (ps := p__law_kept) fun _ _ _ _ _ _ us hl => match us, hl with | [_, _, _], _ => rfl
  have m__law_kept := PySem.W.mg_of X G a__law_kept
  have F__law_change := fun_mk (st := s__law_change) l__law_change o__law_change k__law_change
  have b__law_change := F__law_change.binds (ps := p__law_change) fun _ _ _ _ _ _ us hl => match us, hl with | [_, _, _, _], _ => rfl
  have m__law_change := PySem.W.mg_of X G a__law_change
  have F_law := fun_mk (st := s_law) l_law o_law k_law
  refine ⟨PySem.W.fnOf "law" "law" (defArgs s_law) (defBody s_law) (defScope s_law) .none kV_law dc_law pm_law an_law cd_law ct_law, fun s v => .of_eq rfl, fun base _ _ => ?_⟩
  have c_is_integer : Cal l.prog w K mg base CX0 1 "is_integer" p_is_integer (sp_is_integer K) := ⟨_, _, ok_is_integer F_is_integer T, m_is_integer, k_is_integer, b_is_integer⟩
  have c_require : Cal l.prog w K mg base CX0 1 "require" p_require (sp_require K) := ⟨_, _, ok_require F_require T, m_require, k_require, b_require⟩
  have c_is_wasted : Cal l.prog w K mg base CX0 1 "is_wasted" p_is_wasted (sp_is_wasted K) := ⟨_, _, ok_is_wasted F_is_wasted T, m_is_wasted, k_is_wasted, b_is_wasted⟩
  have c__law_stream : Cal l.prog w K mg base CX0 1 "_law_stream" p__law_stream (sp__law_stream K) := ⟨_, _, ok__law_stream F__law_stream T, m__law_stream, k__law_stream, b__law_stream⟩
  have c__law_next : Cal l.prog w K mg base CX0 1 "_law_next" p__law_next (sp__law_next K) := ⟨_, _, ok__law_next F__law_next T, m__law_next, k__law_next, b__law_next⟩
  have c__law_is_integer : Cal l.prog w K mg base CX0 1 "_law_is_integer" p__law_is_integer (sp__law_is_integer K) := ⟨_, _, ok__law_is_integer F__law_is_integer T, m__law_is_integer, k__law_is_integer, b__law_is_integer⟩
  have c__law_sorted : Cal l.prog w K mg base CX0 1 "_law_sorted" p__law_sorted (sp__law_sortedR K) := ⟨_, _, ok__law_sorted F__law_sorted T, m__law_sorted, k__law_sorted, b__law_sorted⟩
  have c__law_transfer : Cal l.prog w K mg base CX0 1 "_law_transfer" p__law_transfer (sp__law_transfer K) := ⟨_, _, ok__law_transfer F__law_transfer T, m__law_transfer, k__law_transfer, b__law_transfer⟩
  have c__law_churn : Cal l.prog w K mg base CX0 1 "_law_churn" p__law_churn (sp__law_churn K) := ⟨_, _, ok__law_churn F__law_churn T, m__law_churn, k__law_churn, b__law_churn⟩
  have c__law_all_pairs : Cal l.prog w K mg base CX0 1 "_law_all_pairs" p__law_all_pairs (sp__law_all_pairs K) := ⟨_, _, ok__law_all_pairs F__law_all_pairs T, m__law_all_pairs, k__law_all_pairs, b__law_all_pairs⟩
  have c_are_integers : Cal l.prog w K mg base CX0 2 "are_integers" p_are_integers (sp_are_integers K) := ⟨_, _, ok_are_integers F_are_integers T c_is_integer, m_are_integers, k_are_integers, b_are_integers⟩
  have c_check_enough : Cal l.prog w K mg base CX0 2 "check_enough" p_check_enough (sp_check_enough K) := ⟨_, _, ok_check_enough F_check_enough T c_require c_is_integer, m_check_enough, k_check_enough, b_check_enough⟩
  have c_keeps : Cal l.prog w K mg base CX0 2 "keeps" p_keeps (sp_keeps K) := ⟨_, _, ok_keeps F_keeps T c_is_wasted, m_keeps, k_keeps, b_keeps⟩
  have c__law_allocation : Cal l.prog w K mg base CX0 2 "_law_allocation" p__law_allocation (sp__law_allocation K) := ⟨_, _, ok__law_allocation F__law_allocation T c__law_next, m__law_allocation, k__law_allocation, b__law_allocation⟩
  have c__law_near : Cal l.prog w K mg base CX0 2 "_law_near" p__law_near (sp__law_nearA K) := ⟨_, _, ok__law_near F__law_near T c__law_next, m__law_near, k__law_near, b__law_near⟩
  have c__law_drawn : Cal l.prog w K mg base CX0 2 "_law_drawn" p__law_drawn (sp__law_drawnP K) := ⟨_, _, ok__law_drawn F__law_drawn T c__law_sorted c__law_next, m__law_drawn, k__law_drawn, b__law_drawn⟩
  have c__law_pairs : Cal l.prog w K mg base CX0 2 "_law_pairs" p__law_pairs (sp__law_pairs K) := ⟨_, _, ok__law_pairs F__law_pairs T c__law_all_pairs c__law_next, m__law_pairs, k__law_pairs, b__law_pairs⟩
  have c__law_kept : Cal l.prog w K mg base CX0 2 "_law_kept" p__law_kept (sp__law_kept K) := ⟨_, _, ok__law_kept F__law_kept T c__law_churn c__law_transfer, m__law_kept, k__law_kept, b__law_kept⟩
  have c__law_change : Cal l.prog w K mg base CX0 2 "_law_change" p__law_change (sp__law_change K) := ⟨_, _, ok__law_change F__law_change T c__law_next, m__law_change, k__law_change, b__law_change⟩
  have c_is_allocation : Cal l.prog w K mg base CX0 3 "is_allocation" p_is_allocation (sp_is_allocation K) := ⟨_, _, ok_is_allocation F_is_allocation T c_are_integers, m_is_allocation, k_is_allocation, b_is_allocation⟩
  have c_is_bounded_allocation : Cal l.prog w K mg base CX0 3 "is_bounded_allocation" p_is_bounded_allocation (sp_is_bounded_allocation K) := ⟨_, _, ok_is_bounded_allocation F_is_bounded_allocation T c_are_integers, m_is_bounded_allocation, k_is_bounded_allocation, b_is_bounded_allocation⟩
  have c_is_assignment : Cal l.prog w K mg base CX0 3 "is_assignment" p_is_assignment (sp_is_assignment K) := ⟨_, _, ok_is_assignment F_is_assignment T c_are_integers, m_is_assignment, k_is_assignment, b_is_assignment⟩
  have c_is_bounded_assignment : Cal l.prog w K mg base CX0 3 "is_bounded_assignment" p_is_bounded_assignment (sp_is_bounded_assignment K) := ⟨_, _, ok_is_bounded_assignment F_is_bounded_assignment T c_are_integers, m_is_bounded_assignment, k_is_bounded_assignment, b_is_bounded_assignment⟩
  have c_is_pair : Cal l.prog w K mg base CX0 3 "is_pair" p_is_pair (sp_is_pairP K) := ⟨_, _, ok_is_pair F_is_pair T c_are_integers, m_is_pair, k_is_pair, b_is_pair⟩
  have c_kept_by : Cal l.prog w K mg base CX0 3 "kept_by" p_kept_by (sp_kept_by K) := ⟨_, _, ok_kept_by F_kept_by T c_keeps, m_kept_by, k_kept_by, b_kept_by⟩
  have c__law_series : Cal l.prog w K mg base CX0 3 "_law_series" p__law_series (sp__law_seriesE K) := ⟨_, _, ok__law_series F__law_series T c__law_allocation c__law_next c__law_near, m__law_series, k__law_series, b__law_series⟩
  have c_are_allocations : Cal l.prog w K mg base CX0 4 "are_allocations" p_are_allocations (sp_are_allocationsM K) := ⟨_, _, ok_are_allocations F_are_allocations T c_is_bounded_allocation c_is_allocation, m_are_allocations, k_are_allocations, b_are_allocations⟩
  have c_check_assignment : Cal l.prog w K mg base CX0 4 "check_assignment" p_check_assignment (sp_check_assignment K) := ⟨_, _, ok_check_assignment F_check_assignment T c_require c_is_bounded_assignment, m_check_assignment, k_check_assignment, b_check_assignment⟩
  have c_are_pairs : Cal l.prog w K mg base CX0 4 "are_pairs" p_are_pairs (sp_are_pairs K) := ⟨_, _, ok_are_pairs F_are_pairs T c_is_pair, m_are_pairs, k_are_pairs, b_are_pairs⟩
  have c_allocation_of : Cal l.prog w K mg base CX0 5 "allocation_of" p_allocation_of (sp_allocation_of K) := ⟨_, _, ok_allocation_of F_allocation_of T c_check_assignment c_check_enough, m_allocation_of, k_allocation_of, b_allocation_of⟩
  have c_check_plan : Cal l.prog w K mg base CX0 5 "check_plan" p_check_plan (sp_check_plan K) := ⟨_, _, ok_check_plan F_check_plan T c_require c_are_allocations c_are_pairs, m_check_plan, k_check_plan, b_check_plan⟩
  have c_is_assignment_of : Cal l.prog w K mg base CX0 6 "is_assignment_of" p_is_assignment_of (sp_is_assignment_of K) := ⟨_, _, ok_is_assignment_of F_is_assignment_of T c_is_assignment c_allocation_of, m_is_assignment_of, k_is_assignment_of, b_is_assignment_of⟩
  have c_are_assignments_of : Cal l.prog w K mg base CX0 7 "are_assignments_of" p_are_assignments_of (sp_are_assignments_of K) := ⟨_, _, ok_are_assignments_of F_are_assignments_of T c_is_assignment_of, m_are_assignments_of, k_are_assignments_of, b_are_assignments_of⟩
  have c_kept_pairs : Cal l.prog w K mg base CX0 8 "kept_pairs" p_kept_pairs (sp_kept_pairs K) := ⟨_, _, ok_kept_pairs F_kept_pairs T c_check_plan c_require c_kept_by c_are_assignments_of, m_kept_pairs, k_kept_pairs, b_kept_pairs⟩
  have c__law_equal : Cal l.prog w K mg base CX0 10 "_law_equal" p__law_equal (sp__law_equal K) := ⟨_, _, ok__law_equal F__law_equal T c__law_is_integer m__law_equal b__law_equal, m__law_equal, k__law_equal, b__law_equal⟩
  exact ok_law F_law T c__law_stream c__law_series c__law_pairs c__law_next c__law_drawn c__law_equal c__law_change c_kept_pairs c__law_kept
theorem walk {l : PySem.W.OpenLaw} {q : Program} {loose : List Str} {XP : (Str → Option Value) → Heap → Prop} {YP : World → Heap → Prop} {d : DefRec} {K : Params → PySem.W.Frag} (hn : l.most = some 63) (hdf : d.params.defaults = [])
    (hY : ∀ (w : World) (h : Heap), YP w h → (K w.params).In h)
    (F : ∀ (w : World) (mg : Str → Option Value) (fa : Addr) (h : Heap), (K w.params).In h → h.Ns mainGlobals mg → mg d.name = some (.ref fa) →
      ∃ fd : FuncData, (∀ (s : Shared) (u : Value), BindsTo s fd ⟨[u], []⟩ [("script", u)]) ∧ ∀ base : Heap, (K w.params).In base → base.Ns mainGlobals mg → FnOk l.prog w (K w.params) mg base CX0 11 fa fd ["script"] (spLaw (K w.params))) :
    PySem.W.WalkO q loose XP YP l.row.toRowW d [] (fun f vs => PySem.call f vs) :=
  L2.walk_of (n := 63) (k := 11) (x := "script") (CX := fun _ => CX0) (sp := fun w => spLaw (K w.params)) hn (by decide) hdf ⟨rfl, by decide, by decide⟩ hY F (fun _ _ a ns hl _ hS => ⟨a, ns, rfl, hS, hl, fun _ => rfl⟩) fun _ _ _ _ _ z => z
end W
open PySem PySem.W PyProof.Rows
set_option maxRecDepth 100000 in
set_option maxHeartbeats 0 in
theorem PySem.Challenge.cw_leastmoved_k38_kept_pairs_holds : PySem.Challenge.rw_leastmoved_k38_kept_pairs.Holds := by
  w_on; o_law; k_head; (case hw => w_witness2)
  k_fill
  refine W.walk (l := PySem.Challenge.rw_leastmoved_k38_kept_pairs) rfl rfl (fun w h Y => PySem.W.kIn_of Y) ?F
  case F =>
    intro w mg fa h KX G hmg
    refine' W.all_mk KX G hmg ?a_is_integer ?l_is_integer ?o_is_integer ?k_is_integer ?a_are_integers ?l_are_integers ?o_are_integers ?k_are_integers ?a_require ?l_require ?o_require ?k_require ?a_is_allocation ?l_is_allocation ?o_is_allocation ?k_is_allocation ?a_is_bounded_allocation ?l_is_bounded_allocation ?o_is_bounded_allocation ?k_is_bounded_allocation ?a_are_allocations ?l_are_allocations ?o_are_allocations ?k_are_allocations ?a_is_assignment ?l_is_assignment ?o_is_assignment ?k_is_assignment ?a_is_bounded_assignment ?l_is_bounded_assignment ?o_is_bounded_assignment ?k_is_bounded_assignment ?a_check_assignment ?l_check_assignment ?o_check_assignment ?k_check_assignment ?a_check_enough ?l_check_enough ?o_check_enough ?k_check_enough ?a_allocation_of ?l_allocation_of ?o_allocation_of ?k_allocation_of ?a_is_assignment_of ?l_is_assignment_of ?o_is_assignment_of ?k_is_assignment_of ?a_are_assignments_of ?l_are_assignments_of ?o_are_assignments_of ?k_are_assignments_of ?a_is_pair ?l_is_pair ?o_is_pair ?k_is_pair ?a_are_pairs ?l_are_pairs ?o_are_pairs ?k_are_pairs ?a_check_plan ?l_check_plan ?o_check_plan ?k_check_plan ?a_is_wasted ?l_is_wasted ?o_is_wasted ?k_is_wasted ?a_keeps ?l_keeps ?o_keeps ?k_keeps ?a_kept_by ?l_kept_by ?o_kept_by ?k_kept_by ?a_kept_pairs ?l_kept_pairs ?o_kept_pairs ?k_kept_pairs ?a__law_stream ?l__law_stream ?o__law_stream ?k__law_stream ?a__law_next ?l__law_next ?o__law_next ?k__law_next ?a__law_is_integer ?l__law_is_integer ?o__law_is_integer ?k__law_is_integer ?a__law_equal ?l__law_equal ?o__law_equal ?k__law_equal ?a__law_allocation ?l__law_allocation ?o__law_allocation ?k__law_allocation ?a__law_near ?l__law_near ?o__law_near ?k__law_near ?a__law_series ?l__law_series ?o__law_series ?k__law_series ?a__law_sorted ?l__law_sorted ?o__law_sorted ?k__law_sorted ?a__law_transfer ?l__law_transfer ?o__law_transfer ?k__law_transfer ?a__law_churn ?l__law_churn ?o__law_churn ?k__law_churn ?a__law_drawn ?l__law_drawn ?o__law_drawn ?k__law_drawn ?a__law_all_pairs ?l__law_all_pairs ?o__law_all_pairs ?k__law_all_pairs ?a__law_pairs ?l__law_pairs ?o__law_pairs ?k__law_pairs ?a__law_kept ?l__law_kept ?o__law_kept ?k__law_kept ?a__law_change ?l__law_change ?o__law_change ?k__law_change ?a_law ?l_law ?o_law ?k_law ?z_abs ?z_all ?z_any ?z_bool ?z_enumerate ?z_int ?z_isinstance ?z_len ?z_list ?z_max ?z_min ?z_range ?z_set ?z_str ?z_sum ?z_tuple ?z_zip ?g_MOST_VARIANTS ?g_MOST_BUCKETS ?g_MOST_ALLOCATIONS
    (case a_is_integer => k_is); (case l_is_integer => k_is); (case o_is_integer => k_is); (case k_is_integer => k_is)
    (case a_are_integers => k_is); (case l_are_integers => k_is); (case o_are_integers => k_is); (case k_are_integers => k_is)
    (case a_require => k_is); (case l_require => k_is); (case o_require => k_is); (case k_require => k_is)
    (case a_is_allocation => k_is); (case l_is_allocation => k_is); (case o_is_allocation => k_is); (case k_is_allocation => k_is)
    (case a_is_bounded_allocation => k_is); (case l_is_bounded_allocation => k_is); (case o_is_bounded_allocation => k_is); (case k_is_bounded_allocation => k_is)
    (case a_are_allocations => k_is); (case l_are_allocations => k_is); (case o_are_allocations => k_is); (case k_are_allocations => k_is)
    (case a_is_assignment => k_is); (case l_is_assignment => k_is); (case o_is_assignment => k_is); (case k_is_assignment => k_is)
    (case a_is_bounded_assignment => k_is); (case l_is_bounded_assignment => k_is); (case o_is_bounded_assignment => k_is); (case k_is_bounded_assignment => k_is)
    (case a_check_assignment => k_is); (case l_check_assignment => k_is); (case o_check_assignment => k_is); (case k_check_assignment => k_is)
    (case a_check_enough => k_is); (case l_check_enough => k_is); (case o_check_enough => k_is); (case k_check_enough => k_is)
    (case a_allocation_of => k_is); (case l_allocation_of => k_is); (case o_allocation_of => k_is); (case k_allocation_of => k_is)
    (case a_is_assignment_of => k_is); (case l_is_assignment_of => k_is); (case o_is_assignment_of => k_is); (case k_is_assignment_of => k_is)
    (case a_are_assignments_of => k_is); (case l_are_assignments_of => k_is); (case o_are_assignments_of => k_is); (case k_are_assignments_of => k_is)
    (case a_is_pair => k_is); (case l_is_pair => k_is); (case o_is_pair => k_is); (case k_is_pair => k_is)
    (case a_are_pairs => k_is); (case l_are_pairs => k_is); (case o_are_pairs => k_is); (case k_are_pairs => k_is)
    (case a_check_plan => k_is); (case l_check_plan => k_is); (case o_check_plan => k_is); (case k_check_plan => k_is)
    (case a_is_wasted => k_is); (case l_is_wasted => k_is); (case o_is_wasted => k_is); (case k_is_wasted => k_is)
    (case a_keeps => k_is); (case l_keeps => k_is); (case o_keeps => k_is); (case k_keeps => k_is)
    (case a_kept_by => k_is); (case l_kept_by => k_is); (case o_kept_by => k_is); (case k_kept_by => k_is)
    (case a_kept_pairs => k_is); (case l_kept_pairs => k_is); (case o_kept_pairs => k_is); (case k_kept_pairs => k_is)
    (case a__law_stream => k_is); (case l__law_stream => k_is); (case o__law_stream => k_is); (case k__law_stream => k_is)
    (case a__law_next => k_is); (case l__law_next => k_is); (case o__law_next => k_is); (case k__law_next => k_is)
    (case a__law_is_integer => k_is); (case l__law_is_integer => k_is); (case o__law_is_integer => k_is); (case k__law_is_integer => k_is)
    (case a__law_equal => k_is); (case l__law_equal => k_is); (case o__law_equal => k_is); (case k__law_equal => k_is)
    (case a__law_allocation => k_is); (case l__law_allocation => k_is); (case o__law_allocation => k_is); (case k__law_allocation => k_is)
    (case a__law_near => k_is); (case l__law_near => k_is); (case o__law_near => k_is); (case k__law_near => k_is)
    (case a__law_series => k_is); (case l__law_series => k_is); (case o__law_series => k_is); (case k__law_series => k_is)
    (case a__law_sorted => k_is); (case l__law_sorted => k_is); (case o__law_sorted => k_is); (case k__law_sorted => k_is)
    (case a__law_transfer => k_is); (case l__law_transfer => k_is); (case o__law_transfer => k_is); (case k__law_transfer => k_is)
    (case a__law_churn => k_is); (case l__law_churn => k_is); (case o__law_churn => k_is); (case k__law_churn => k_is)
    (case a__law_drawn => k_is); (case l__law_drawn => k_is); (case o__law_drawn => k_is); (case k__law_drawn => k_is)
    (case a__law_all_pairs => k_is); (case l__law_all_pairs => k_is); (case o__law_all_pairs => k_is); (case k__law_all_pairs => k_is)
    (case a__law_pairs => k_is); (case l__law_pairs => k_is); (case o__law_pairs => k_is); (case k__law_pairs => k_is)
    (case a__law_kept => k_is); (case l__law_kept => k_is); (case o__law_kept => k_is); (case k__law_kept => k_is)
    (case a__law_change => k_is); (case l__law_change => k_is); (case o__law_change => k_is); (case k__law_change => k_is)
    (case a_law => k_is); (case l_law => k_is); (case o_law => k_is); (case k_law => k_is)
    (case z_abs => k_is)
    (case z_all => k_is)
    (case z_any => k_is)
    (case z_bool => k_is)
    (case z_enumerate => k_is)
    (case z_int => k_is)
    (case z_isinstance => k_is)
    (case z_len => k_is)
    (case z_list => k_is)
    (case z_max => k_is)
    (case z_min => k_is)
    (case z_range => k_is)
    (case z_set => k_is)
    (case z_str => k_is)
    (case z_sum => k_is)
    (case z_tuple => k_is)
    (case z_zip => k_is)
    (case g_MOST_VARIANTS => k_is)
    (case g_MOST_BUCKETS => k_is)
    (case g_MOST_ALLOCATIONS => k_is)
