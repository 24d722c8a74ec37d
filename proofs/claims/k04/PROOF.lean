import PyProof.Rows.All
import Wide.All
import OpenK.AllK
import Wide.FinOn
import HandS.ForMost
import HandS.TupAny
import HandS.Zip
import HandS.IsInst
import HandS.Walk
import HandS.SortInts
import HandS.Strs
import HandS.SetFor
import KE.GoesMore
import KE.GoesEnum
import HandS.Evl
import HandS.Gcd
import KE.KMathGC
import HandS.Deep
import PyProof.ListNew
import HandS.GenList
import HandS.Sort
import HandS.FStr
import KE.KExcSuper
import KE.KSuper
import HandS.ExcOwn
import HandS.ExcField
import HandS.TupMul
import HandS.Style
import PyProof.CallType
import HandS.Conv
import PyProof.P3In
import PyProof.Rows.SeqMore
import KE.SortData
import KE.SortLaws
import KE.SortKeyHeap
import HandS.SortKw
import KE.DataMinMax
import PyProof.Claim2Refuses
import HandS.Flow
import PySem.Challenge.RW_leastmoved_k04_whole_nearest_allocations
set_option Elab.async false
set_option linter.all false
set_option maxRecDepth 100000
set_option maxHeartbeats 4000000
namespace Lm
open PySem PySem.Spec PyProof.Rows L2

/-- what is around: the written part, and (perhaps) the stream with the script's copy -/
structure Ct where
  K : PySem.W.Frag
  so : Option (Addr × Addr)
def okA (c : Ct) (a : Addr) : Prop := ∀ st l, c.so = some (st, l) → a ≠ st
/-- the stream at st: a copy of the script at l, a cell, a place -/
def Str1 (K : PySem.W.Frag) (st l : Addr) (H : Hp) : Prop :=
  ∃ (ns : List Int) (x k : Int), H st = some (.lst [.ref l, .int x, .int k]) ∧ H l = some (.lst (ns.map V.int)) ∧ l ≠ st ∧ 0 ≤ k
def Ji (c : Ct) (H : Hp) : Prop := ∀ st l, c.so = some (st, l) → Str1 c.K st l H
def Rr (c : Ct) (H H' : Hp) : Prop := (∀ a o, okA c a → H a = some o → H' a = some o) ∧ (Ji c H → Ji c H')
variable {c : Ct} {H H' H0 H1 H2 H3 : Hp}
theorem Rr.rf : Rr c H H := ⟨fun _ _ _ h => h, fun h => h⟩
theorem Rr.tr (a : Rr c H H1) (b : Rr c H1 H2) : Rr c H H2 := ⟨fun x o k h => b.1 x o k (a.1 x o k h), fun h => b.2 (a.2 h)⟩
theorem Ji.same (j : Ji c H) (e : Same H H') : Ji c H' := fun st l h => by
  obtain ⟨ns, x, k, h1, h2, h3, h4⟩ := j st l h
  exact ⟨ns, x, k, e _ _ h1, e _ _ h2, h3, h4⟩
theorem Rr.same (e : Same H H') : Rr c H H' := ⟨fun x o _ h => e x o h, fun j => j.same e⟩
theorem okA.fresh (j : Ji c H) {p : Addr} (h : H p = none) : okA c p := fun st l e z => by
  obtain ⟨ns, x, k, h1, _⟩ := j st l e
  rw [z, h1] at h
  cases h
theorem okA.tup (j : Ji c H) {p : Addr} {o : HO} (h : H p = some o) (n : ∀ xs, o ≠ .lst xs) : okA c p := fun st l e z => by
  obtain ⟨ns, x, k, h1, _⟩ := j st l e
  rw [z, h1] at h
  exact n _ (Option.some.inj h).symm
theorem Rr.back (r : Rr c H H') (j : Ji c H) {p : Addr} (h : H' p = none) : H p = none := by
  cases q : H p with
  | none => rfl
  | some o =>
    have k : okA c p := fun st l e z => by
      obtain ⟨ns, x, k, h1, _⟩ := r.2 j st l e
      rw [z, h1] at h
      cases h
    rw [r.1 p o k q] at h
    cases h
/-- a tuple (one that has no dict of its own) -/
def TpN (K : PySem.W.Frag) (H : Hp) (a : Addr) (xs : List V) : Prop :=
  (∃ o : Obj, o.dict = none ∧ H a = some (.frz o (.tup xs))) ∨
    ∃ (o : Obj) (its : Array Value) (n : Nat), K.lookup a = some o ∧ o.cls = .type "tuple" ∧ o.dict = none ∧ o.data = .seq its n ∧ its.size ≤ sizeLine ∧ Vals xs its.toList
theorem TpN.sq {K : PySem.W.Frag} {a : Addr} {xs : List V} (h : TpN K H a xs) : SqT K H a xs := by
  rcases h with ⟨o, _, h⟩ | ⟨o, its, n, h1, h2, _, h3, h4, h5⟩
  · exact .inl (.inr ⟨o, h⟩)
  · exact .inr ⟨o, its, n, h1, h2, h3, h4, h5⟩
theorem Rr.tup (r : Rr c H H') (j : Ji c H) {a : Addr} {xs : List V} (h : TpN c.K H a xs) : TpN c.K H' a xs := by
  rcases h with ⟨o, q, h⟩ | h
  · exact .inl ⟨o, q, r.1 _ _ (okA.tup j h (fun _ => by simp)) h⟩
  · exact .inr h
theorem Rr.lst (r : Rr c H H') {a : Addr} {xs : List V} (k : okA c a) (h : SqL c.K H a xs) : SqL c.K H' a xs := by
  rcases h with (h | ⟨o, h⟩) | h
  · exact .inl (.inl (r.1 _ _ k h))
  · exact .inl (.inr ⟨o, r.1 _ _ k h⟩)
  · exact .inr h

/-! ### values as data: ints, texts, tuples; lists whose addresses are not the stream's -/
mutual
inductive Bo (c : Ct) (H : Hp) : V → PyData → Prop
  | non : Bo c H .non .none
  | bl (b : Bool) : Bo c H (.bl b) (.bool b)
  | int (i : Int) : Bo c H (.int i) (.int i)
  | str (x : Str) : Bo c H (.str x) (.str x)
  | lst {a : Addr} {xs : List V} {ds : List PyData} : okA c a → SqL c.K H a xs → BoAll c H xs ds → Bo c H (.ref a) (.list ds)
  | tup {a : Addr} {xs : List V} {ds : List PyData} : TpN c.K H a xs → BoAll c H xs ds → Bo c H (.ref a) (.tuple ds)
inductive BoAll (c : Ct) (H : Hp) : List V → List PyData → Prop
  | nil : BoAll c H [] []
  | cons {v : V} {vs : List V} {d : PyData} {ds : List PyData} : Bo c H v d → BoAll c H vs ds → BoAll c H (v :: vs) (d :: ds)
end
mutual
theorem Bo.up (h : ∀ a xs, TpN c.K H a xs → TpN c.K H' a xs) (g : ∀ a xs, okA c a → SqL c.K H a xs → SqL c.K H' a xs) : ∀ {v : V} {d : PyData}, Bo c H v d → Bo c H' v d
  | _, _, .non => .non
  | _, _, .bl b => .bl b
  | _, _, .int b => .int b
  | _, _, .str b => .str b
  | _, _, .lst k s a => .lst k (g _ _ k s) (BoAll.up h g a)
  | _, _, .tup s a => .tup (h _ _ s) (BoAll.up h g a)
theorem BoAll.up (h : ∀ a xs, TpN c.K H a xs → TpN c.K H' a xs) (g : ∀ a xs, okA c a → SqL c.K H a xs → SqL c.K H' a xs) : ∀ {v : List V} {d : List PyData}, BoAll c H v d → BoAll c H' v d
  | _, _, .nil => .nil
  | _, _, .cons a b => .cons (Bo.up h g a) (BoAll.up h g b)
end
theorem Bo.mono (j : Ji c H) (r : Rr c H H') {v : V} {d : PyData} (h : Bo c H v d) : Bo c H' v d := h.up (fun _ _ s => r.tup j s) (fun _ _ k s => r.lst k s)
theorem BoAll.mono (j : Ji c H) (r : Rr c H H') {v : List V} {d : List PyData} (h : BoAll c H v d) : BoAll c H' v d := h.up (fun _ _ s => r.tup j s) (fun _ _ k s => r.lst k s)
theorem sqT_same {K : PySem.W.Frag} (e : Same H H') {a : Addr} {xs : List V} (h : TpN K H a xs) : TpN K H' a xs := by
  rcases h with ⟨o, q, h⟩ | h
  · exact .inl ⟨o, q, e _ _ h⟩
  · exact .inr h
theorem Bo.same (e : Same H H') {v : V} {d : PyData} (h : Bo c H v d) : Bo c H' v d := h.up (fun _ _ s => sqT_same e s) (fun _ _ k s => e.seq s)
theorem BoAll.same (e : Same H H') {v : List V} {d : List PyData} (h : BoAll c H v d) : BoAll c H' v d := h.up (fun _ _ s => sqT_same e s) (fun _ _ k s => e.seq s)
theorem BoAll.len : ∀ {v : List V} {d : List PyData}, BoAll c H v d → v.length = d.length
  | _, _, .nil => rfl
  | _, _, .cons _ b => by simp [BoAll.len b]
theorem BoAll.get : ∀ {v : List V} {d : List PyData} {i : Nat} {x : V}, BoAll c H v d → v[i]? = some x → ∃ e, d[i]? = some e ∧ Bo c H x e
  | _, _, _, _, .nil, h => by simp at h
  | _, _, 0, x, .cons a b, h => by
    have e : _ = x := Option.some.inj h
    subst e
    exact ⟨_, rfl, a⟩
  | _, _, i + 1, x, .cons a b, h => BoAll.get (i := i) b (by simpa using h)
theorem BoAll.gets : ∀ {v : List V} {d : List PyData} {i : Nat} {e : PyData}, BoAll c H v d → d[i]? = some e → ∃ x, v[i]? = some x ∧ Bo c H x e
  | _, _, _, _, .nil, h => by simp at h
  | _, _, 0, x, .cons a b, h => by
    have e : _ = x := Option.some.inj h
    subst e
    exact ⟨_, rfl, a⟩
  | _, _, i + 1, x, .cons a b, h => BoAll.gets (i := i) b (by simpa using h)
theorem BoAll.app : ∀ {v w : List V} {d e : List PyData}, BoAll c H v d → BoAll c H w e → BoAll c H (v ++ w) (d ++ e)
  | _, _, _, _, .nil, b => b
  | _, _, _, _, .cons a r, b => .cons a (BoAll.app r b)
theorem BoAll.set : ∀ {v : List V} {d : List PyData} {i : Nat} {x : V} {e : PyData}, BoAll c H v d → Bo c H x e → BoAll c H (v.set i x) (d.set i e)
  | _, _, _, _, _, .nil, b => .nil
  | _, _, 0, _, _, .cons a r, b => .cons b r
  | _, _, i + 1, _, _, .cons a r, b => .cons a (BoAll.set r b)
theorem BoAll.take : ∀ {v : List V} {d : List PyData} (i : Nat), BoAll c H v d → BoAll c H (v.take i) (d.take i)
  | _, _, 0, _ => .nil
  | _, _, i + 1, .nil => .nil
  | _, _, i + 1, .cons a b => .cons a (BoAll.take i b)
theorem BoAll.drop : ∀ {v : List V} {d : List PyData} (i : Nat), BoAll c H v d → BoAll c H (v.drop i) (d.drop i)
  | _, _, 0, h => h
  | _, _, i + 1, .nil => .nil
  | _, _, i + 1, .cons a b => BoAll.drop i b
theorem Bo.int' {v : V} {i : Int} (h : Bo c H v (.int i)) : v = .int i := by cases h; rfl
theorem Bo.bl' {v : V} {i : Bool} (h : Bo c H v (.bool i)) : v = .bl i := by cases h; rfl
theorem Bo.non' {v : V} (h : Bo c H v .none) : v = .non := by cases h; rfl
theorem Bo.tup' {v : V} {ds : List PyData} (h : Bo c H v (.tuple ds)) : ∃ a xs, v = .ref a ∧ TpN c.K H a xs ∧ BoAll c H xs ds := by cases h with | tup s a => exact ⟨_, _, rfl, s, a⟩
theorem Bo.lst' {v : V} {ds : List PyData} (h : Bo c H v (.list ds)) : ∃ a xs, v = .ref a ∧ okA c a ∧ SqL c.K H a xs ∧ BoAll c H xs ds := by cases h with | lst k s a => exact ⟨_, _, rfl, k, s, a⟩
theorem BoAll.ints : ∀ {v : List V} {ns : List Int}, BoAll c H v (ns.map PyData.int) → v = ns.map V.int
  | v, [], h => by cases h; rfl
  | v, n :: ns, h => by
    cases h with
    | cons a b => rw [a.int', BoAll.ints b]; rfl
theorem BoAll.ofInts : ∀ (ns : List Int), BoAll c H (ns.map V.int) (ns.map PyData.int)
  | [] => .nil
  | n :: ns => .cons (.int n) (BoAll.ofInts ns)
theorem BoAll.bools : ∀ {v : List V} {ns : List Bool}, BoAll c H v (ns.map PyData.bool) → v = ns.map V.bl
  | v, [], h => by cases h; rfl
  | v, n :: ns, h => by
    cases h with
    | cons a b => rw [a.bl', BoAll.bools b]; rfl
mutual
theorem Bo.dp : ∀ {v : V} {d : PyData}, Bo c H v d → Dp c.K H v d
  | _, _, .non => .non
  | _, _, .bl b => .bl b
  | _, _, .int b => .int b
  | _, _, .str b => .str b
  | _, _, .lst _ s a => .lst s (BoAll.dp a)
  | _, _, .tup s a => .tup s.sq (BoAll.dp a)
theorem BoAll.dp : ∀ {v : List V} {d : List PyData}, BoAll c H v d → DpAll c.K H v d
  | _, _, .nil => .nil
  | _, _, .cons a b => .cons (Bo.dp a) (BoAll.dp b)
end
/-! no stream, no care -/
mutual
theorem Bo.pure : ∀ {v : V} {d : PyData}, Bo c H v d → Bo ⟨c.K, none⟩ H v d
  | _, _, .non => .non
  | _, _, .bl b => .bl b
  | _, _, .int b => .int b
  | _, _, .str b => .str b
  | _, _, .lst _ s a => .lst (fun _ _ e => nomatch e) s (BoAll.pure a)
  | _, _, .tup s a => .tup s (BoAll.pure a)
theorem BoAll.pure : ∀ {v : List V} {d : List PyData}, BoAll c H v d → BoAll ⟨c.K, none⟩ H v d
  | _, _, .nil => .nil
  | _, _, .cons a b => .cons (Bo.pure a) (BoAll.pure b)
end
/-! data without lists -/
mutual
def flatD : PyData → Bool
  | .none => true
  | .bool _ => true
  | .int _ => true
  | .str _ => true
  | .tuple ds => flatAll ds
  | _ => false
def flatAll : List PyData → Bool
  | [] => true
  | d :: ds => flatD d && flatAll ds
end
theorem flatAll_ints (ns : List Int) : flatAll (ns.map PyData.int) = true := by
  induction ns with
  | nil => rfl
  | cons n ns ih =>
    show (flatD (.int n) && flatAll (ns.map PyData.int)) = true
    rw [ih]
    rfl
theorem flatAll_mem {ds : List PyData} (h : ∀ d ∈ ds, flatD d = true) : flatAll ds = true := by
  induction ds with
  | nil => rfl
  | cons d ds ih =>
    show (flatD d && flatAll ds) = true
    rw [h d (by simp), ih fun e he => h e (by simp [he])]
    rfl
mutual
theorem Bo.flat {c' : Ct} (hk : c'.K = c.K) : ∀ {v : V} {d : PyData}, flatD d = true → Bo c H v d → Bo c' H v d
  | _, _, _, .non => .non
  | _, _, _, .bl b => .bl b
  | _, _, _, .int b => .int b
  | _, _, _, .str b => .str b
  | _, _, q, .lst _ s a => by simp [flatD] at q
  | _, _, q, .tup s a => .tup (by rw [hk]; exact s) (BoAll.flat hk (by simpa [flatD] using q) a)
theorem BoAll.flat {c' : Ct} (hk : c'.K = c.K) : ∀ {v : List V} {d : List PyData}, flatAll d = true → BoAll c H v d → BoAll c' H v d
  | _, _, _, .nil => .nil
  | _, _, q, .cons a b => by
    have q' : (flatD _ && flatAll _) = true := q
    rw [Bool.and_eq_true] at q'
    exact .cons (Bo.flat hk q'.1 a) (BoAll.flat hk q'.2 b)
end

/-! ### the heap without some addresses -/
def mns (H : Hp) (O : List Addr) : Hp := fun a => if a ∈ O then none else H a
theorem mns_in {O : List Addr} {a : Addr} (h : a ∈ O) : mns H O a = none := if_pos h
theorem mns_out {O : List Addr} {a : Addr} (h : a ∉ O) : mns H O a = H a := if_neg h
theorem mns_same {O : List Addr} : Same (mns H O) H := fun a o h => by
  by_cases q : a ∈ O
  · rw [mns_in q] at h; cases h
  · rw [mns_out q] at h; exact h
theorem mns_some {O : List Addr} {a : Addr} {o : HO} (h : mns H O a = some o) : a ∉ O ∧ H a = some o := by
  by_cases q : a ∈ O
  · rw [mns_in q] at h; cases h
  · rw [mns_out q] at h; exact ⟨q, h⟩
theorem mns_sub {O O' : List Addr} (s : ∀ a, a ∈ O' → a ∈ O) : Same (mns H O) (mns H O') := fun a o h => by
  obtain ⟨q, h⟩ := mns_some h
  rw [mns_out (fun z => q (s a z))]
  exact h
theorem mns_nil : mns H [] = H := by
  funext a
  exact mns_out (by simp)
theorem Rr.mns {O : List Addr} (r : Rr c H H') (j : Ji c (mns H O)) (q : ∀ a ∈ O, okA c a) : Rr c (mns H O) (mns H' O) := by
  refine ⟨fun a o k h => ?_, fun _ st l e => ?_⟩
  · obtain ⟨n, h⟩ := mns_some h
    rw [mns_out n]
    exact r.1 a o k h
  · obtain ⟨ns, x, k, h1, h2, h3, h4⟩ := j st l e
    obtain ⟨n1, h1⟩ := mns_some h1
    obtain ⟨n2, h2⟩ := mns_some h2
    have jH : Ji c H := j.same mns_same
    obtain ⟨ns', x', k', g1, g2, g3, g4⟩ := r.2 jH st l e
    refine ⟨ns', x', k', ?_, ?_, g3, g4⟩
    · rw [mns_out n1]; exact g1
    · rw [mns_out n2]; exact g2
end Lm


namespace Lm
open PySem PySem.Spec PyProof.Rows L2
variable {c : Ct} {H H' H0 H1 H2 H3 : Hp} {O : List Addr}

/-! flat data leans on tuples alone -/
mutual
theorem Bo.flatTo {c' : Ct} (h : ∀ a xs, TpN c.K H a xs → TpN c'.K H' a xs) : ∀ {v : V} {d : PyData}, flatD d = true → Bo c H v d → Bo c' H' v d
  | _, _, _, .non => .non
  | _, _, _, .bl b => .bl b
  | _, _, _, .int b => .int b
  | _, _, _, .str b => .str b
  | _, _, q, .lst _ s a => by simp [flatD] at q
  | _, _, q, .tup s a => .tup (h _ _ s) (BoAll.flatTo h (by simpa [flatD] using q) a)
theorem BoAll.flatTo {c' : Ct} (h : ∀ a xs, TpN c.K H a xs → TpN c'.K H' a xs) : ∀ {v : List V} {d : List PyData}, flatAll d = true → BoAll c H v d → BoAll c' H' v d
  | _, _, _, .nil => .nil
  | _, _, q, .cons a b => by
    have q' : (flatD _ && flatAll _) = true := q
    rw [Bool.and_eq_true] at q'
    exact .cons (Bo.flatTo h q'.1 a) (BoAll.flatTo h q'.2 b)
end
/-- what may be written -/
def OwnU : HO → Prop
  | .lst _ => True
  | .dK _ => True
  | .dT _ => True
  | .set _ _ => True
  | _ => False
theorem sqT_mns {K : PySem.W.Frag} (hO : ∀ a ∈ O, ∃ u, H a = some u ∧ OwnU u) {a : Addr} {xs : List V} (h : TpN K H a xs) : TpN K (mns H O) a xs := by
  have n : ∀ u, H a = some u → ¬ OwnU u → mns H O a = some u := fun u e k => by
    have : a ∉ O := fun z => by
      obtain ⟨y, q, w⟩ := hO a z
      rw [q] at e
      exact k (Option.some.inj e ▸ w)
    rw [mns_out this]; exact e
  rcases h with ⟨o, q, h⟩ | h
  · exact .inl ⟨o, q, n _ h fun w => w⟩
  · exact .inr h
theorem sqT_upd {K : PySem.W.Frag} {p : Addr} {zs : List V} {o : HO} (hp : H p = some (.lst zs)) {a : Addr} {xs : List V} (h : TpN K H a xs) : TpN K (upd H p o) a xs := by
  have n : ∀ u, H a = some u → (∀ ys, u ≠ .lst ys) → upd H p o a = some u := fun u e k => by
    have : a ≠ p := fun z => by
      rw [z, hp] at e
      exact k zs (Option.some.inj e).symm
    rw [upd_ne this]; exact e
  rcases h with ⟨o, q, h⟩ | h
  · exact .inl ⟨o, q, n _ h fun _ => by simp⟩
  · exact .inr h

/-! ### lists of one's own: the addresses that may be written -/
mutual
inductive Fo (c : Ct) (H : Hp) : V → PyData → List Addr → Prop
  | leaf {v : V} {d : PyData} : flatD d = true → Bo c H v d → Fo c H v d []
  | lst {a : Addr} {xs : List V} {ds : List PyData} {fp : List Addr} : H a = some (.lst xs) → FoAll c H xs ds fp → Fo c H (.ref a) (.list ds) (a :: fp)
inductive FoAll (c : Ct) (H : Hp) : List V → List PyData → List Addr → Prop
  | nil : FoAll c H [] [] []
  | cons {v : V} {vs : List V} {d : PyData} {ds : List PyData} {f fs : List Addr} : Fo c H v d f → FoAll c H vs ds fs → FoAll c H (v :: vs) (d :: ds) (f ++ fs)
end
mutual
theorem Fo.up (h : ∀ a xs, TpN c.K H a xs → TpN c.K H' a xs) : ∀ {v : V} {d : PyData} {fp : List Addr}, (∀ a ∈ fp, ∀ o, H a = some o → H' a = some o) → Fo c H v d fp → Fo c H' v d fp
  | _, _, _, _, .leaf q b => .leaf q (b.flatTo h q)
  | _, _, _, k, .lst e a => .lst (k _ (by simp) _ e) (FoAll.up h (fun b hb => k b (by simp [hb])) a)
theorem FoAll.up (h : ∀ a xs, TpN c.K H a xs → TpN c.K H' a xs) : ∀ {v : List V} {d : List PyData} {fp : List Addr}, (∀ a ∈ fp, ∀ o, H a = some o → H' a = some o) → FoAll c H v d fp → FoAll c H' v d fp
  | _, _, _, _, .nil => .nil
  | _, _, _, k, .cons a b => .cons (Fo.up h (fun x hx => k x (by simp [hx])) a) (FoAll.up h (fun x hx => k x (by simp [hx])) b)
end
mutual
theorem Fo.bo : ∀ {v : V} {d : PyData} {fp : List Addr}, (∀ a ∈ fp, okA c a) → Fo c H v d fp → Bo c H v d
  | _, _, _, _, .leaf _ b => b
  | _, _, _, k, .lst e a => .lst (k _ (by simp)) (.inl (.inl e)) (FoAll.bo (fun b hb => k b (by simp [hb])) a)
theorem FoAll.bo : ∀ {v : List V} {d : List PyData} {fp : List Addr}, (∀ a ∈ fp, okA c a) → FoAll c H v d fp → BoAll c H v d
  | _, _, _, _, .nil => .nil
  | _, _, _, k, .cons a b => .cons (Fo.bo (fun x hx => k x (by simp [hx])) a) (FoAll.bo (fun x hx => k x (by simp [hx])) b)
end
theorem FoAll.leaves : ∀ {v : List V} {d : List PyData}, flatAll d = true → BoAll c H v d → FoAll c H v d []
  | _, _, _, .nil => .nil
  | _, _, q, .cons a b => by
    have q' : (flatD _ && flatAll _) = true := q
    rw [Bool.and_eq_true] at q'
    exact .cons (f := []) (fs := []) (.leaf q'.1 a) (FoAll.leaves q'.2 b)
mutual
theorem Fo.isL : ∀ {v : V} {d : PyData} {fp : List Addr}, Fo c H v d fp → ∀ a ∈ fp, ∃ xs, H a = some (.lst xs)
  | _, _, _, .leaf _ _, a, h => by simp at h
  | _, _, _, .lst e f, a, h => by
    rcases List.mem_cons.mp h with q | q
    · rw [q]; exact ⟨_, e⟩
    · exact FoAll.isL f a q
theorem FoAll.isL : ∀ {v : List V} {d : List PyData} {fp : List Addr}, FoAll c H v d fp → ∀ a ∈ fp, ∃ xs, H a = some (.lst xs)
  | _, _, _, .nil, a, h => by simp at h
  | _, _, _, .cons e f, a, h => by
    rcases List.mem_append.mp h with q | q
    · exact Fo.isL e a q
    · exact FoAll.isL f a q
end
theorem FoAll.app : ∀ {v w : List V} {d e : List PyData} {f g : List Addr}, FoAll c H v d f → FoAll c H w e g → FoAll c H (v ++ w) (d ++ e) (f ++ g)
  | _, _, _, _, _, _, .nil, b => b
  | _, _, _, _, _, _, .cons a r, b => by
    rw [List.append_assoc]
    exact .cons a (FoAll.app r b)
/-- a flat list of one's own -/
theorem Fo.list' {v : V} {ds : List PyData} {fp : List Addr} (h : Fo c H v (.list ds) fp) : ∃ a xs f, v = .ref a ∧ fp = a :: f ∧ H a = some (.lst xs) ∧ FoAll c H xs ds f := by
  cases h with
  | leaf q _ => simp [flatD] at q
  | lst e a => exact ⟨_, _, _, rfl, rfl, e, a⟩
theorem FoAll.flat0 : ∀ {v : List V} {d : List PyData} {f : List Addr}, flatAll d = true → FoAll c H v d f → f = [] ∧ BoAll c H v d
  | _, _, _, _, .nil => ⟨rfl, .nil⟩
  | _, _, _, q, .cons a b => by
    have q' : (flatD _ && flatAll _) = true := q
    rw [Bool.and_eq_true] at q'
    obtain ⟨e1, b1⟩ := FoAll.flat0 q'.2 b
    cases a with
    | leaf _ x => exact ⟨by rw [e1]; rfl, .cons x b1⟩
    | lst _ _ => simp [flatD] at q'

/-! ### what the slots hold -/
inductive Rs where
  /-- a value that will not change -/
  | v (d : PyData)
  /-- a list of one's own -/
  | o (d : PyData)
  /-- this very value -/
  | r (x : V)
  /-- a dict or set of one's own -/
  | d (u : HO)
  /-- a list of one's own whose items stay -/
  | w (ds : List PyData)
def RepO (c : Ct) (O : List Addr) (H : Hp) (x : Option V) : Option Rs → List Addr → Prop
  | none, fp => fp = []
  | some (.v d), fp => fp = [] ∧ ∃ v, x = some v ∧ Bo c (mns H O) v d
  | some (.o d), fp => ∃ v, x = some v ∧ Fo c H v d fp
  | some (.r y), fp => fp = [] ∧ x = some y
  | some (.d u), fp => ∃ a, fp = [a] ∧ x = some (.ref a) ∧ H a = some u ∧ OwnU u
  | some (.w ds), fp => ∃ a xs, fp = [a] ∧ x = some (.ref a) ∧ H a = some (.lst xs) ∧ BoAll c (mns H O) xs ds
inductive Reps (c : Ct) (O : List Addr) (H : Hp) : L2.St → List (Option Rs) → List Addr → Prop
  | nil : Reps c O H [] [] []
  | cons {x : Option V} {s : Option Rs} {f fs : List Addr} {σ : L2.St} {Γ : List (Option Rs)} : RepO c O H x s f → Reps c O H σ Γ fs → Reps c O H (x :: σ) (s :: Γ) (f ++ fs)
theorem Reps.len {σ : L2.St} {Γ : List (Option Rs)} {fp : List Addr} (h : Reps c O H σ Γ fp) : σ.length = Γ.length := by
  induction h with
  | nil => rfl
  | cons _ _ ih => simp [ih]
theorem Reps.map {O' : List Addr} {σ : L2.St} {Γ : List (Option Rs)} {fp : List Addr} (h : Reps c O H σ Γ fp) (k : ∀ x s f, (∀ a ∈ f, a ∈ fp) → RepO c O H x s f → RepO c O' H' x s f) : Reps c O' H' σ Γ fp := by
  induction h with
  | nil => exact .nil
  | cons a b ih => exact .cons (k _ _ _ (fun x hx => by simp [hx]) a) (ih fun x s f q => k x s f fun y hy => by simp [q y hy])
/-- the i-th slot, and how it is changed -/
theorem Reps.nth {σ : L2.St} {Γ : List (Option Rs)} {fp : List Addr} (h : Reps c O H σ Γ fp) : ∀ {i : Nat} {s : Option Rs}, Γ[i]? = some s →
    ∃ x f pre post, σ[i]? = some x ∧ RepO c O H x s f ∧ fp = pre ++ (f ++ post) ∧
      ∀ (O' : List Addr) (H' : Hp) (x' : Option V) (s' : Option Rs) (f' : List Addr), (∀ y t g, (∀ a ∈ g, a ∈ pre ++ post) → RepO c O H y t g → RepO c O' H' y t g) → RepO c O' H' x' s' f' → Reps c O' H' (σ.set i x') (Γ.set i s') (pre ++ (f' ++ post)) := by
  induction h with
  | nil => intro i s e; simp at e
  | cons a b ih =>
    rename_i x0 s0 f0 fs0 σ0 Γ0
    intro i s e
    cases i with
    | zero =>
      have e' : s0 = s := by simpa using e
      subst e'
      refine ⟨x0, f0, [], fs0, rfl, a, rfl, fun O' H' x' s' f' k r => ?_⟩
      show Reps c O' H' (x' :: σ0) (s' :: Γ0) (f' ++ fs0)
      exact .cons r (b.map fun y t g q z => k y t g (fun u hu => by simpa using q u hu) z)
    | succ i =>
      obtain ⟨x, f, pre, post, h1, h2, h3, h4⟩ := ih (i := i) (by simpa using e)
      refine ⟨x, f, f0 ++ pre, post, by simpa using h1, h2, by rw [h3]; simp, fun O' H' x' s' f' k r => ?_⟩
      have := h4 O' H' x' s' f' (fun y t g q z => k y t g (fun u hu => by have := q u hu; simp at this ⊢; rcases this with w | w <;> simp [w]) z) r
      rw [List.append_assoc]
      exact .cons (k _ _ _ (fun u hu => by simp [hu]) a) this

/-- the entry's heap H0, the addresses of one's own O, the heap H, the slots σ and what they hold -/
structure Env (c : Ct) (H0 : Hp) (O : List Addr) (H : Hp) (σ : L2.St) (Γ : List (Option Rs)) : Prop where
  r0 : Rr c H0 (mns H O)
  j : Ji c (mns H O)
  fr : ∀ a ∈ O, H0 a = none
  dm : ∀ a ∈ O, ∃ u, H a = some u ∧ OwnU u
  rep : ∃ fp, Reps c O H σ Γ fp ∧ fp.Nodup ∧ ∀ a ∈ fp, a ∈ O
variable {σ : L2.St} {Γ : List (Option Rs)}
theorem Env.jH (e : Env c H0 O H σ Γ) : Ji c H := e.j.same mns_same
theorem Env.okO (e : Env c H0 O H σ Γ) : ∀ a ∈ O, okA c a := fun a ha st l q z => by
  obtain ⟨ns, x, k, h1, _⟩ := e.j st l q
  rw [← z, mns_in ha] at h1
  cases h1
theorem Env.rH (e : Env c H0 O H σ Γ) : Rr c H0 H := e.r0.tr (Rr.same mns_same)
theorem Env.len (e : Env c H0 O H σ Γ) : σ.length = Γ.length := let ⟨_, h, _⟩ := e.rep; h.len
/-- the heap goes on -/
theorem Env.on (e : Env c H0 O H σ Γ) (r : Rr c H H') : Env c H0 O H' σ Γ := by
  have rm := r.mns e.j e.okO
  refine ⟨e.r0.tr rm, rm.2 e.j, e.fr, fun a ha => ?_, ?_⟩
  · obtain ⟨u, q, w⟩ := e.dm a ha
    exact ⟨u, r.1 a _ (e.okO a ha) q, w⟩
  · obtain ⟨fp, h, nd, sub⟩ := e.rep
    refine ⟨fp, h.map fun x s f q z => ?_, nd, sub⟩
    cases s with
    | none => exact z
    | some s =>
      cases s with
      | v d => exact ⟨z.1, z.2.elim fun v hv => ⟨v, hv.1, hv.2.mono e.j rm⟩⟩
      | o d => exact z.elim fun v hv => ⟨v, hv.1, hv.2.up (fun _ _ s => r.tup e.jH s) fun a ha o ho => r.1 a o (e.okO a (sub a (q a ha))) ho⟩
      | r y => exact z
      | d u => exact z.elim fun a ⟨w1, w2, w3, w4⟩ => ⟨a, w1, w2, r.1 a _ (e.okO a (sub a (q a (by rw [w1]; simp)))) w3, w4⟩
      | w ds => exact z.elim fun a ⟨xs, w1, w2, w3, w4⟩ => ⟨a, xs, w1, w2, r.1 a _ (e.okO a (sub a (q a (by rw [w1]; simp)))) w3, w4.mono e.j rm⟩
theorem Env.slotV (e : Env c H0 O H σ Γ) {i : Nat} {d : PyData} (h : Γ[i]? = some (some (.v d))) : ∃ v, σ[i]? = some (some v) ∧ Bo c (mns H O) v d := by
  obtain ⟨fp, hr, nd, sub⟩ := e.rep
  obtain ⟨x, f, pre, post, h1, h2, h3, h4⟩ := hr.nth h
  obtain ⟨v, hv, b⟩ := h2.2
  subst hv
  exact ⟨v, h1, b⟩
theorem Env.slotO (e : Env c H0 O H σ Γ) {i : Nat} {d : PyData} (h : Γ[i]? = some (some (.o d))) : ∃ v fp, σ[i]? = some (some v) ∧ Fo c H v d fp ∧ fp.Nodup ∧ ∀ a ∈ fp, a ∈ O := by
  obtain ⟨fp, hr, nd, sub⟩ := e.rep
  obtain ⟨x, f, pre, post, h1, h2, h3, h4⟩ := hr.nth h
  obtain ⟨v, hv, b⟩ := h2
  subst hv
  subst h3
  have n2 := (List.nodup_append.mp nd).2.1
  exact ⟨v, f, h1, b, (List.nodup_append.mp n2).1, fun a ha => sub a (by simp [ha])⟩
theorem Env.slotR (e : Env c H0 O H σ Γ) {i : Nat} {y : V} (h : Γ[i]? = some (some (.r y))) : σ[i]? = some (some y) := by
  obtain ⟨fp, hr, nd, sub⟩ := e.rep
  obtain ⟨x, f, pre, post, h1, h2, h3, h4⟩ := hr.nth h
  have hy : x = some y := h2.2
  rw [h1, hy]
/-- any slot is given another value that does not change -/
theorem Env.setV (e : Env c H0 O H σ Γ) {i : Nat} {v : V} {d : PyData} (b : Bo c (mns H O) v d) : Env c H0 O H (σ.set i (some v)) (Γ.set i (some (.v d))) := by
  refine ⟨e.r0, e.j, e.fr, e.dm, ?_⟩
  obtain ⟨fp, hr, nd, sub⟩ := e.rep
  by_cases hi : i < Γ.length
  · obtain ⟨x, f, pre, post, h1, h2, h3, h4⟩ := hr.nth (s := Γ[i]) (List.getElem?_eq_getElem hi)
    subst h3
    refine ⟨pre ++ ([] ++ post), h4 O H _ _ [] (fun _ _ _ _ z => z) ⟨rfl, v, rfl, b⟩, ?_, fun a ha => sub a ?_⟩
    · refine nd.sublist ?_
      simp
    · simp at ha ⊢
      rcases ha with q | q <;> simp [q]
  · have hs : ¬ i < σ.length := by rw [hr.len]; exact hi
    rw [List.set_eq_of_length_le (by omega), List.set_eq_of_length_le (by omega)]
    exact ⟨fp, hr, nd, sub⟩
/-- a slot is forgotten, whatever it holds then -/
theorem Env.setN (e : Env c H0 O H σ Γ) {i : Nat} {x : Option V} : Env c H0 O H (σ.set i x) (Γ.set i none) := by
  refine ⟨e.r0, e.j, e.fr, e.dm, ?_⟩
  obtain ⟨fp, hr, nd, sub⟩ := e.rep
  by_cases hi : i < Γ.length
  · obtain ⟨y, f, pre, post, h1, h2, h3, h4⟩ := hr.nth (s := Γ[i]) (List.getElem?_eq_getElem hi)
    subst h3
    refine ⟨pre ++ ([] ++ post), h4 O H _ _ [] (fun _ _ _ _ z => z) rfl, ?_, fun a ha => sub a ?_⟩
    · refine nd.sublist ?_
      simp
    · simp at ha ⊢
      rcases ha with q | q <;> simp [q]
  · have hs : ¬ i < σ.length := by rw [hr.len]; exact hi
    rw [List.set_eq_of_length_le (by omega), List.set_eq_of_length_le (by omega)]
    exact ⟨fp, hr, nd, sub⟩
/-- a slot is given a new list -/
theorem Env.setO (e : Env c H0 O H σ Γ) (r : Rr c H H') {i : Nat} {v : V} {d : PyData} {f : List Addr} (b : Fo c H' v d f) (nd' : f.Nodup) (new : ∀ a ∈ f, H a = none) :
    Env c H0 (f ++ O) H' (σ.set i (some v)) (Γ.set i (some (.o d))) := by
  have e' := e.on r
  have hdis : ∀ a ∈ f, a ∉ O := fun a ha hO => by
    obtain ⟨xs, q, _⟩ := e.dm a hO
    rw [new a ha] at q
    cases q
  have hn : ∀ a ∈ f, mns H O a = none := fun a ha => by
    rw [mns_out (hdis a ha)]; exact new a ha
  have same : Same (mns H O) (mns H' (f ++ O)) → True := fun _ => trivial
  have hrm : Rr c (mns H O) (mns H' (f ++ O)) := by
    have rm := r.mns e.j e.okO
    refine ⟨fun a o k h => ?_, fun _ st l q => ?_⟩
    · have h' := rm.1 a o k h
      obtain ⟨n1, h'⟩ := mns_some h'
      have : a ∉ f := fun z => by rw [hn a z] at h; cases h
      rw [mns_out (by simp [this, n1])]
      exact h'
    · obtain ⟨ns, x, k, h1, h2, h3, h4⟩ := e.j st l q
      obtain ⟨ns', x', k', g1, g2, g3, g4⟩ := e'.j st l q
      obtain ⟨m1, g1⟩ := mns_some g1
      obtain ⟨m2, g2⟩ := mns_some g2
      have a1 : st ∉ f := fun z => by rw [hn _ z] at h1; cases h1
      have a2 : l ∉ f := fun z => by rw [hn _ z] at h2; cases h2
      exact ⟨ns', x', k', by rw [mns_out (by simp [a1, m1])]; exact g1, by rw [mns_out (by simp [a2, m2])]; exact g2, g3, g4⟩
  have jn : Ji c (mns H' (f ++ O)) := hrm.2 e.j
  refine ⟨e.r0.tr hrm, jn, fun a ha => ?_, fun a ha => ?_, ?_⟩
  · rcases List.mem_append.mp ha with q | q
    · have := e.r0
      cases h : H0 a with
      | none => rfl
      | some o =>
        have jH0 : okA c a := fun st l q' z => by
          obtain ⟨ns, x, k, h1, _⟩ := e.j st l q'
          rw [← z, hn a q] at h1
          cases h1
        have := e.r0.1 a o jH0 h
        rw [hn a q] at this
        cases this
    · exact e.fr a q
  · rcases List.mem_append.mp ha with q | q
    · exact (b.isL a q).elim fun xs h => ⟨_, h, trivial⟩
    · exact e'.dm a q
  · obtain ⟨fp, hr, nd, sub⟩ := e.rep
    have keep : ∀ y t g, (∀ a ∈ g, a ∈ O) → RepO c O H y t g → RepO c (f ++ O) H' y t g := fun y t g hg z => by
      cases t with
      | none => exact z
      | some t =>
        cases t with
        | v d => exact ⟨z.1, z.2.elim fun v hv => ⟨v, hv.1, hv.2.mono e.j hrm⟩⟩
        | o d => exact z.elim fun v hv => ⟨v, hv.1, hv.2.up (fun _ _ s => r.tup e.jH s) fun a ha o ho => r.1 a o (e.okO a (hg a ha)) ho⟩
        | r y => exact z
        | d u => exact z.elim fun a ⟨w1, w2, w3, w4⟩ => ⟨a, w1, w2, r.1 a _ (e.okO a (hg a (by rw [w1]; simp))) w3, w4⟩
        | w ds => exact z.elim fun a ⟨xs, w1, w2, w3, w4⟩ => ⟨a, xs, w1, w2, r.1 a _ (e.okO a (hg a (by rw [w1]; simp))) w3, w4.mono e.j hrm⟩
    by_cases hi : i < Γ.length
    · obtain ⟨x, g, pre, post, h1, h2, h3, h4⟩ := hr.nth (s := Γ[i]) (List.getElem?_eq_getElem hi)
      subst h3
      refine ⟨pre ++ (f ++ post), h4 _ _ _ _ f (fun y t g' q z => keep y t g' (fun a ha => sub a (by have := q a ha; simp at this ⊢; rcases this with w | w <;> simp [w])) z) ⟨v, rfl, b⟩, ?_, fun a ha => ?_⟩
      · have n0 : (pre ++ post).Nodup := nd.sublist (by simp)
        rw [List.nodup_append] at n0 ⊢
        refine ⟨n0.1, ?_, ?_⟩
        · rw [List.nodup_append]
          refine ⟨nd', n0.2.1, fun a ha b' hb q => ?_⟩
          subst q
          exact hdis a ha (sub a (by simp [hb]))
        · intro a ha b' hb q
          subst q
          rcases List.mem_append.mp hb with w | w
          · exact hdis a w (sub a (by simp [ha]))
          · exact n0.2.2 a ha a w rfl
      · simp only [List.mem_append] at ha ⊢
        rcases ha with q | q | q
        · exact .inr (sub a (by simp [q]))
        · exact .inl q
        · exact .inr (sub a (by simp [q]))
    · have hs : ¬ i < σ.length := by rw [hr.len]; exact hi
      rw [List.set_eq_of_length_le (by omega), List.set_eq_of_length_le (by omega)]
      exact ⟨fp, hr.map fun x s g q z => keep x s g (fun a ha => sub a (q a ha)) z, nd, fun a ha => by simp [sub a ha]⟩
/-- a list of one's own is written: the slot's list at p -/
theorem Env.write (e : Env c H0 O H σ Γ) {i : Nat} {ds es : List PyData} (h : Γ[i]? = some (some (.o (.list ds)))) :
    ∃ p xs f, σ[i]? = some (some (.ref p)) ∧ H p = some (.lst xs) ∧ FoAll c H xs ds f ∧ p ∉ f ∧ (∀ a ∈ f, a ∈ O) ∧
      ∀ ys : List V, FoAll c (upd H p (.lst ys)) ys es f → Env c H0 O (upd H p (.lst ys)) σ (Γ.set i (some (.o (.list es)))) := by
  obtain ⟨fp, hr, nd, sub⟩ := e.rep
  obtain ⟨x, f0, pre, post, h1, h2, h3, h4⟩ := hr.nth h
  obtain ⟨v, hv, b⟩ := h2
  subst hv
  obtain ⟨p, xs, f, rfl, rfl, hp, hfa⟩ := b.list'
  subst h3
  have hpO : p ∈ O := sub p (by simp)
  have n2 := (List.nodup_append.mp nd).2.1
  have hpf : p ∉ f := fun z => by
    have := (List.nodup_append.mp n2).1
    exact (List.nodup_cons.mp this).1 z
  refine ⟨p, xs, f, h1, hp, hfa, hpf, fun a ha => sub a (by simp [ha]), fun ys hy => ?_⟩
  have em : mns (upd H p (.lst ys)) O = mns H O := by
    funext a
    by_cases ha : a ∈ O
    · rw [mns_in ha, mns_in ha]
    · rw [mns_out ha, mns_out ha, upd_ne (fun z => ha (by rw [z]; exact hpO))]
  refine ⟨by rw [em]; exact e.r0, by rw [em]; exact e.j, e.fr, fun a ha => ?_, ?_⟩
  · by_cases q : a = p
    · rw [q]; exact ⟨_, upd_same, trivial⟩
    · rw [upd_ne q]; exact e.dm a ha
  · have hσ : σ.set i (some (.ref p)) = σ := by
      obtain ⟨hlt, e1⟩ := List.getElem?_eq_some_iff.mp h1
      rw [← e1]
      exact List.set_getElem_self hlt
    have := h4 O (upd H p (.lst ys)) (some (.ref p)) (some (.o (.list es))) (p :: f) (fun y t g q z => ?_) ⟨.ref p, rfl, .lst upd_same hy⟩
    · rw [hσ] at this
      exact ⟨_, this, nd, sub⟩
    · cases t with
      | none => exact z
      | some t =>
        cases t with
        | v d => exact ⟨z.1, z.2.elim fun v hv => ⟨v, hv.1, by rw [em]; exact hv.2⟩⟩
        | o d =>
          refine z.elim fun v hv => ⟨v, hv.1, hv.2.up (fun _ _ s => sqT_upd hp s) fun a ha o ho => ?_⟩
          have : a ≠ p := fun w => by
            subst w
            have hm := q a ha
            rcases List.mem_append.mp hm with u | u
            · exact (List.nodup_append.mp nd).2.2 a u a (by simp) rfl
            · exact (List.nodup_append.mp n2).2.2 a (by simp) a u rfl
          rw [upd_ne this]
          exact ho
        | r y => exact z
        | d u =>
          refine z.elim fun a ⟨w1, w2, w3, w4⟩ => ⟨a, w1, w2, ?_, w4⟩
          have : a ≠ p := fun w => by
            subst w
            have hm := q a (by rw [w1]; simp)
            rcases List.mem_append.mp hm with u | u
            · exact (List.nodup_append.mp nd).2.2 a u a (by simp) rfl
            · exact (List.nodup_append.mp n2).2.2 a (by simp) a u rfl
          rw [upd_ne this]
          exact w3
        | w ds =>
          refine z.elim fun a ⟨xs, w1, w2, w3, w4⟩ => ⟨a, xs, w1, w2, ?_, by rw [em]; exact w4⟩
          have : a ≠ p := fun w => by
            subst w
            have hm := q a (by rw [w1]; simp)
            rcases List.mem_append.mp hm with u | u
            · exact (List.nodup_append.mp nd).2.2 a u a (by simp) rfl
            · exact (List.nodup_append.mp n2).2.2 a (by simp) a u rfl
          rw [upd_ne this]
          exact w3
/-- from now on this list is not written -/
theorem Env.freeze (e : Env c H0 O H σ Γ) {i : Nat} {d : PyData} (h : Γ[i]? = some (some (.o d))) : ∃ O', Env c H0 O' H σ (Γ.set i (some (.v d))) ∧ Same (mns H O) (mns H O') := by
  obtain ⟨fp, hr, nd, sub⟩ := e.rep
  obtain ⟨x, f, pre, post, h1, h2, h3, h4⟩ := hr.nth h
  obtain ⟨v, hv, b⟩ := h2
  subst hv
  subst h3
  have n2 := (List.nodup_append.mp nd).2.1
  have dis : ∀ a ∈ pre ++ post, a ∉ f := fun a ha hf => by
    rcases List.mem_append.mp ha with u | u
    · exact (List.nodup_append.mp nd).2.2 a u a (by simp [hf]) rfl
    · exact (List.nodup_append.mp n2).2.2 a hf a u rfl
  have hm : ∀ a, a ∈ O.filter (fun a => !decide (a ∈ f)) ↔ a ∈ O ∧ a ∉ f := fun a => by simp [List.mem_filter]
  have sm : Same (mns H O) (mns H (O.filter fun a => !decide (a ∈ f))) := mns_sub fun a ha => ((hm a).mp ha).1
  refine ⟨O.filter fun a => !decide (a ∈ f), ⟨e.r0.tr (Rr.same sm), e.j.same sm, fun a ha => e.fr a ((hm a).mp ha).1, fun a ha => e.dm a ((hm a).mp ha).1, ?_⟩, sm⟩
  have hσ : σ.set i (some v) = σ := by
    obtain ⟨hlt, e1⟩ := List.getElem?_eq_some_iff.mp h1
    rw [← e1]
    exact List.set_getElem_self hlt
  have hb : Bo c (mns H (O.filter fun a => !decide (a ∈ f))) v d := by
    refine Fo.bo (fun a ha => e.okO a (sub a (by simp [ha]))) (b.up (fun a xs s => sqT_mns (fun b' hb' => e.dm b' ((hm b').mp hb').1) s) fun a ha o ho => ?_)
    rw [mns_out fun z => ((hm a).mp z).2 ha]
    exact ho
  have := h4 (O.filter fun a => !decide (a ∈ f)) H (some v) (some (.v d)) [] (fun y t g q z => ?_) ⟨rfl, v, rfl, hb⟩
  · rw [hσ] at this
    exact ⟨_, this, nd.sublist (by simp), fun a ha => (hm a).mpr ⟨sub a (by simp at ha ⊢; rcases ha with w | w <;> simp [w]), dis a (by simpa using ha)⟩⟩
  · cases t with
    | none => exact z
    | some t =>
      cases t with
      | v d => exact ⟨z.1, z.2.elim fun v hv => ⟨v, hv.1, hv.2.same sm⟩⟩
      | o d => exact z
      | r y => exact z
      | d u => exact z
      | w ds => exact z.elim fun a ⟨xs, w1, w2, w3, w4⟩ => ⟨a, xs, w1, w2, w3, w4.same sm⟩
/-- a later entry is as good as an earlier one -/
theorem Env.base (e : Env c H0 O H σ Γ) : Env c (mns H O) O H σ Γ := ⟨Rr.rf, e.j, fun a ha => mns_in ha, e.dm, e.rep⟩
theorem Env.fromB {O1 : List Addr} {σ1 : L2.St} {Γ1 : List (Option Rs)} (e : Env c H0 O H σ Γ) (e1 : Env c (mns H O) O1 H1 σ1 Γ1) : Env c H0 O1 H1 σ1 Γ1 :=
  ⟨e.r0.tr e1.r0, e1.j, (fun a ha => by
    have h1 := e1.fr a ha
    cases h : H0 a with
    | none => rfl
    | some o =>
      have k : okA c a := fun st l q z => by
        obtain ⟨ns, x, k, g1, _⟩ := e.j st l q
        rw [← z, h1] at g1
        cases g1
      have := e.r0.1 a o k h
      rw [h1] at this
      cases this), e1.dm, e1.rep⟩
end Lm


namespace Lm
open PySem PySem.Spec PyProof.Rows L2
section
variable {X : Cx} {H : Hp}
def NewT (H : Hp) (xs : List V) (Q : VK) : Prop := ∀ p o, o.dict = none → H p = none → Q (.ref p) (upd H p (.frz o (.tup xs)))
theorem newT {pins : List (Addr × Obj)} {σ : L2.St} {s : Shared} {xs : List V} {us : List Value} {Q : VK} (I : Inv X pins σ H s) (r : Vals xs us) (z : xs.length ≤ sizeLine) (q : NewT H xs Q) :
    EP X pins σ Q (.ref s.heap.objs.size) { s with heap := s.heap.push { cls := .type "tuple", data := .seq us.toArray } } := by
  refine ⟨.ref s.heap.objs.size, upd H s.heap.objs.size (.frz { cls := .type "tuple", data := .seq us.toArray } (.tup xs)), I.laid (t' := s.toks) (fun b u e => Heap.get?_push_of_some _ e) (Nat.le_refl _) ?_, rfl, q _ _ rfl (I.hok.fresh (Nat.le_refl _))⟩
  exact ⟨Heap.get?_push_size _ rfl, z, us, r, ⟨_, Heap.get?_push_size _ rfl, rfl, _, rfl⟩⟩
def tTupN (t : TA) : TE := fun σ H Q => t σ H fun xs H1 => xs.length ≤ sizeLine ∧ NewT H1 xs Q
theorem pe_tupN {es : List Expr} {t : TA} {pos : Pos} {x1} (h : PA X es t) : PE X (.Tuple es x1 pos) (tTupN t) := by
  refine ⟨fun pins s σ H Q I hq => ?_⟩
  refine wpAny_Tuple_spliced (thn (h.run pos pins s σ H _ I hq) fun us s1 ⟨xs, H1, I1, r, z, q⟩ => ⟨by rw [← r.length]; exact z, ?_⟩)
  exact newT I1 r z q
/-- tuple(list), tuple(tuple) -/
def rTuple (K : PySem.W.Frag) : List V → Hp → VK → Prop := fun xs H Q => ∃ p ys, xs = [.ref p] ∧ ((SqL K H p ys ∧ NewT H ys Q) ∨ (SqT K H p ys ∧ Q (.ref p) H))
theorem cr_tuple : CallR X (.type "tuple") (rTuple X.K) := by
  intro pins s σ H xs us Q I r h
  obtain ⟨p, ys, rfl, h⟩ := h
  obtain ⟨u, rfl, rx⟩ := vals1 r
  cases rx
  rcases h with ⟨hq, q⟩ | ⟨hq, q⟩
  · obtain ⟨its, r', pl, hz⟩ := I.list hq
    have hlen := r'.length
    refine call_tuple_list pl.isList (fun h' kp => ?_) (by simp only [List.size_toArray] <;> omega)
    have I1 : Inv X pins σ H { s with heap := h' } := I.kept (t' := s.toks) kp
    exact newT I1 r' hz q
  · obtain ⟨its, r', pl, hz⟩ := I.tuple hq
    exact call_tuple_same pl ⟨.ref p, H, I, rfl, q⟩
/-- t + u -/
def rCatN (K : PySem.W.Frag) : R2 := fun x y H Q => ∃ a b xs ys, x = .ref a ∧ y = .ref b ∧ SqT K H a xs ∧ SqT K H b ys ∧ xs.length + ys.length ≤ sizeLine ∧
  (xs = [] → Q (.ref b) H) ∧ (xs ≠ [] → ys = [] → Q (.ref a) H) ∧ (xs ≠ [] → ys ≠ [] → NewT H (xs ++ ys) Q)
theorem op_catN : OpR X (binaryOp .Add) (rCatN X.K) := by
  intro pins s σ H x y v u Q I rx ry h
  obtain ⟨a, b, xs, ys, rfl, rfl, ha, hb, hz, q0, q1, q2⟩ := h
  cases rx
  cases ry
  obtain ⟨its, r1, p1, _⟩ := I.tuple ha
  obtain ⟨its2, r2, p2, _⟩ := I.tuple hb
  by_cases hx : xs = []
  · subst hx
    cases r1
    exact cat_tup0 p1 p2 ⟨.ref b, H, I, rfl, q0 rfl⟩
  · refine HT.cat_tup p1 p2 (fun z => hx (r1.nil_iff.mp z)) (fun z => ⟨.ref a, H, I, rfl, q1 hx (r2.nil_iff.mp z)⟩) (fun z => ?_) (by rw [← r1.length, ← r2.length]; exact hz)
    have := newT (Q := Q) I (r1.append r2) (by rw [List.length_append]; exact hz) (q2 hx (fun w => z (r2.nil_iff.mpr w)))
    exact this
/-- t[lo:hi] -/
def rSlN (K : PySem.W.Frag) : V → Option Int → Option Int → Hp → VK → Prop := fun x lo hi H Q => ∃ a xs, x = .ref a ∧ SqT K H a xs ∧
  (HT.sIx xs.length 0 lo = 0 ∧ HT.sIx xs.length xs.length hi = xs.length → Q (.ref a) H) ∧ (¬ (HT.sIx xs.length 0 lo = 0 ∧ HT.sIx xs.length xs.length hi = xs.length) → NewT H (cutV xs lo hi) Q)
theorem sl_tupN : SlR X (rSlN X.K) := by
  intro pins s σ H x v vl vu lo hi sl Q I rx hs pl pu h
  obtain ⟨a, xs, rfl, hx, q1, q2⟩ := h
  cases rx
  obtain ⟨its, r, ht, hz⟩ := I.tuple hx
  have hlen : its.toArray.size = xs.length := by rw [List.size_toArray]; exact r.length.symm
  refine ⟨"tuple", _, PyProof.Rows.slot_tuple_getitem.lookup, ht.typeIs, ?_⟩
  by_cases hw : HT.sIx xs.length 0 lo = 0 ∧ HT.sIx xs.length xs.length hi = xs.length
  · exact getItem_tuple_whole ht hs pl pu (by rw [hlen]; exact hw) ⟨.ref a, H, I, rfl, q1 hw⟩
  · refine HT.getItem_tuple_cut ht hs pl pu (by rw [hlen]; exact hw) ?_ (by rw [hlen]; exact hz)
    rw [hlen]
    have := newT (Q := Q) I ((r.drop (HT.sIx xs.length 0 lo)).take (HT.sIx xs.length xs.length hi - HT.sIx xs.length 0 lo)) (Nat.le_trans (cutV_length xs lo hi) hz) (q2 hw)
    exact this
end
end Lm
namespace Lm
open PySem PySem.Spec PyProof.Rows L2
section
variable {X : Cx}
end
end Lm


namespace Lm
open PySem PySem.Spec PyProof.Rows L2
variable {c : Ct} {H H' H0 H1 H2 H3 : Hp} {O : List Addr} {σ : L2.St} {Γ : List (Option Rs)}

/-- what an expression gives: a value that stays, a new list, something to be read at once -/
inductive Kd | v | o | b
def Res (c : Ct) (O : List Addr) (H H2 : Hp) (v : V) (d : PyData) : Kd → Prop
  | .v => Bo c (mns H2 O) v d
  | .o => ∃ fp, Fo c H2 v d fp ∧ fp.Nodup ∧ ∀ a ∈ fp, H a = none
  | .b => Bo c H2 v d
theorem Res.bo {v : V} {d : PyData} {k : Kd} (e : Env c H0 O H σ Γ) (h : Res c O H H2 v d k) : Bo c H2 v d := by
  cases k with
  | v => exact Bo.same mns_same h
  | o =>
    obtain ⟨fp, f, nd, new⟩ := h
    exact f.bo fun a ha => okA.fresh e.jH (new a ha)
  | b => exact h
theorem Res.on {v : V} {d : PyData} {k : Kd} (e : Env c H0 O H σ Γ) (r1 : Rr c H H2) (r : Rr c H2 H3) (h : Res c O H H2 v d k) : Res c O H H3 v d k := by
  have e2 := e.on r1
  cases k with
  | v => exact Bo.mono e2.j (r.mns e2.j e2.okO) h
  | o =>
    obtain ⟨fp, f, nd, new⟩ := h
    exact ⟨fp, f.up (fun _ _ s => r.tup e2.jH s) (fun a ha o q => r.1 a o (okA.fresh e.jH (new a ha)) q), nd, new⟩
  | b => exact Bo.mono e2.jH r h
/-- fresh behind is fresh before -/
theorem Res.back {v : V} {d : PyData} {k : Kd} (e : Env c H0 O H σ Γ) (r1 : Rr c H H2) (h : Res c O H2 H3 v d k) : Res c O H H3 v d k := by
  cases k with
  | v => exact h
  | o =>
    obtain ⟨fp, f, nd, new⟩ := h
    exact ⟨fp, f, nd, fun a ha => r1.back e.jH (new a ha)⟩
  | b => exact h
theorem Bo.flatM {v : V} {d : PyData} (e : Env c H0 O H σ Γ) (r : Rr c H H2) (q : flatD d = true) (h : Bo c H2 v d) : Bo c (mns H2 O) v d :=
  h.flatTo (fun a xs s => sqT_mns (fun b hb => (e.on r).dm b hb) s) q

def Ev (c : Ct) (te : TE) (Γ : List (Option Rs)) (k : Kd) (d : PyData) : Prop :=
  ∀ H0 O H σ, Env c H0 O H σ Γ → ∀ Q : VK, (∀ v H2, Rr c H H2 → Res c O H H2 v d k → Q v H2) → te σ H Q
/-- .. one of several -/
def EvN (c : Ct) (te : TE) (Γ : List (Option Rs)) (k : Kd) (P : PyData → Prop) : Prop :=
  ∀ H0 O H σ, Env c H0 O H σ Γ → ∀ Q : VK, (∀ v d H2, P d → Rr c H H2 → Res c O H H2 v d k → Q v H2) → te σ H Q
def EvT (c : Ct) (tt : TT) (Γ : List (Option Rs)) (b : Bool) : Prop :=
  ∀ H0 O H σ, Env c H0 O H σ Γ → ∀ Q : Bool → Hp → Prop, (∀ H2, Rr c H H2 → Q b H2) → tt σ H Q
/-- arguments, to be read; (kv) each a value that stays -/
def EvA (c : Ct) (ta : TA) (Γ : List (Option Rs)) (kv : Bool) (ds : List PyData) : Prop :=
  ∀ H0 O H σ, Env c H0 O H σ Γ → ∀ Q : List V → Hp → Prop, (∀ vs H2, Rr c H H2 → BoAll c (if kv then mns H2 O else H2) vs ds → Q vs H2) → ta σ H Q
section
variable {te ta tb tx : TE} {tt tu : TT} {tr : TA} {k ka kb : Kd} {d x y z : PyData} {i j : Int} {a b : Bool} {kv : Bool} {ds : List PyData}
theorem Ev.n (h : Ev c te Γ k d) : EvN c te Γ k (fun x => x = d) := fun H0 O H σ e Q q => h H0 O H σ e Q fun v H2 r s => q v d H2 rfl r s
theorem EvN.det (h : EvN c te Γ k (fun x => x = d)) : Ev c te Γ k d := fun H0 O H σ e Q q => h H0 O H σ e Q fun v d H2 p r s => by subst p; exact q v H2 r s
theorem EvN.imp {P P' : PyData → Prop} (h : EvN c te Γ k P) (i : ∀ d, P d → P' d) : EvN c te Γ k P' := fun H0 O H σ e Q q => h H0 O H σ e Q fun v d H2 p => q v d H2 (i d p)
theorem Ev.to (h : Ev c te Γ k x) (e : x = y) : Ev c te Γ k y := e ▸ h
theorem EvT.to (h : EvT c tt Γ a) (e : a = b) : EvT c tt Γ b := e ▸ h
/-- flat data stay -/
theorem Ev.fl (h : Ev c te Γ k d) (f : flatD d = true) : Ev c te Γ .v d := fun H0 O H σ e Q q => h H0 O H σ e Q fun v H2 r s => q v H2 r (Bo.flatM e r f (Res.bo e s))
theorem Ev.fo (h : Ev c te Γ k d) (f : flatD d = true) : Ev c te Γ .o d := fun H0 O H σ e Q q => h H0 O H σ e Q fun v H2 r s => q v H2 r ⟨[], .leaf f (Res.bo e s), List.nodup_nil, fun _ h => nomatch h⟩
theorem EvN.fo {P : PyData → Prop} (h : EvN c te Γ k P) (f : ∀ d, P d → flatD d = true) : EvN c te Γ .o P := fun H0 O H σ e Q q => h H0 O H σ e Q fun v d H2 p r s => q v d H2 p r ⟨[], .leaf (f d p) (Res.bo e s), List.nodup_nil, fun _ h => nomatch h⟩
theorem EvN.fl {P : PyData → Prop} (h : EvN c te Γ k P) (f : ∀ d, P d → flatD d = true) : EvN c te Γ .v P := fun H0 O H σ e Q q => h H0 O H σ e Q fun v d H2 p r s => q v d H2 p r (Bo.flatM e r (f d p) (Res.bo e s))

/-! ### leaves -/
theorem d_int : Ev c (tC (.int i)) Γ .v (.int i) := fun H0 O H σ e Q q => q _ H Rr.rf (.int i)
theorem d_bl : Ev c (tC (.bl a)) Γ .v (.bool a) := fun H0 O H σ e Q q => q _ H Rr.rf (.bl a)
theorem d_str {s : Str} : Ev c (tC (.str s)) Γ .v (.str s) := fun H0 O H σ e Q q => q _ H Rr.rf (.str s)
theorem d_non : Ev c (tC .non) Γ .v .none := fun H0 O H σ e Q q => q _ H Rr.rf .non
theorem d_var {n : Nat} (h : Γ[n]? = some (some (.v d))) : Ev c (tVar n) Γ .v d := fun H0 O H σ e Q q => by
  obtain ⟨v, hv, b⟩ := e.slotV h
  exact ⟨v, hv, q v H Rr.rf b⟩
theorem d_varO {n : Nat} (h : Γ[n]? = some (some (.o d))) : Ev c (tVar n) Γ .b d := fun H0 O H σ e Q q => by
  obtain ⟨v, fp, hv, f, nd, sub⟩ := e.slotO h
  exact ⟨v, hv, q v H Rr.rf (f.bo fun a ha => e.okO a (sub a ha))⟩
/-! ### two operands -/
theorem d_bin {r : R2} (ha : Ev c ta Γ ka x) (hb : Ev c tb Γ kb y)
    (hr : ∀ H O v u (Q : VK), Bo c H v x → Bo c H u y → (∀ v' H2, Rr c H H2 → Bo c (mns H2 O) v' z → Q v' H2) → r v u H Q) : Ev c (tOp r ta tb) Γ .v z := fun H0 O H σ e Q q =>
  ha H0 O H σ e _ fun v H1 r1 s1 => hb H0 O H1 σ (e.on r1) _ fun u H2 r2 s2 =>
    hr H2 O v u Q (Res.bo e (Res.on e r1 r2 s1)) (Res.bo (e.on r1) s2) fun v' H3 r3 b => q v' H3 ((r1.tr r2).tr r3) b
theorem d_I {C : Int → Int → Prop} {g : Int → Int → V} {w : V} (ha : Ev c ta Γ ka (.int i)) (hb : Ev c tb Γ kb (.int j)) (hc : C i j) (hw : g i j = w) (hz : ∀ H, Bo c H w z) : Ev c (tOp (rI C g) ta tb) Γ .v z :=
  d_bin ha hb fun H O v u Q bv bu q => ⟨i, j, bv.int', bu.int', hc, q _ H Rr.rf (hw ▸ hz _)⟩
theorem d_I0 {g : Int → Int → V} {w : V} (ha : Ev c ta Γ ka (.int i)) (hb : Ev c tb Γ kb (.int j)) (hw : g i j = w) (hz : ∀ H, Bo c H w z) : Ev c (tOp (rI0 g) ta tb) Γ .v z :=
  d_bin ha hb fun H O v u Q bv bu q => ⟨i, j, bv.int', bu.int', q _ H Rr.rf (hw ▸ hz _)⟩
theorem d_sub (ha : Ev c ta Γ ka (.int i)) (hb : Ev c tb Γ kb (.int j)) : Ev c (tOp (rI0 fun i j => .int (i - j)) ta tb) Γ .v (.int (i - j)) := d_I0 ha hb rfl fun _ => .int _
theorem d_lt (ha : Ev c ta Γ ka (.int i)) (hb : Ev c tb Γ kb (.int j)) : Ev c (tOp (rI0 fun i j => .bl (decide (i < j))) ta tb) Γ .v (.bool (decide (i < j))) := d_I0 ha hb rfl fun _ => .bl _
theorem d_le (ha : Ev c ta Γ ka (.int i)) (hb : Ev c tb Γ kb (.int j)) : Ev c (tOp (rI0 fun i j => .bl (decide (i ≤ j))) ta tb) Γ .v (.bool (decide (i ≤ j))) := d_I0 ha hb rfl fun _ => .bl _
theorem d_gt (ha : Ev c ta Γ ka (.int i)) (hb : Ev c tb Γ kb (.int j)) : Ev c (tOp (rI0 fun i j => .bl (decide (j < i))) ta tb) Γ .v (.bool (decide (j < i))) := d_I0 ha hb rfl fun _ => .bl _
theorem d_ge (ha : Ev c ta Γ ka (.int i)) (hb : Ev c tb Γ kb (.int j)) : Ev c (tOp (rI0 fun i j => .bl (decide (j ≤ i))) ta tb) Γ .v (.bool (decide (j ≤ i))) := d_I0 ha hb rfl fun _ => .bl _
theorem d_fdiv (ha : Ev c ta Γ ka (.int i)) (hb : Ev c tb Γ kb (.int j)) (h : CDiv i j) : Ev c (tOp (rI CDiv fun i j => .int (i / j)) ta tb) Γ .v (.int (i / j)) := d_I ha hb h rfl fun _ => .int _
theorem d_mod (ha : Ev c ta Γ ka (.int i)) (hb : Ev c tb Γ kb (.int j)) (h : 0 < j) : Ev c (tOp (rI (fun _ j => 0 < j) fun i j => .int (i % j)) ta tb) Γ .v (.int (i % j)) := d_I ha hb h rfl fun _ => .int _
/-- == and != of scalars -/
def scalD : PyData → Option V
  | .none => some .non
  | .bool b => some (.bl b)
  | .int i => some (.int i)
  | .str s => some (.str s)
  | _ => none
theorem Bo.scal {v w : V} (h : Bo c H v d) (e : scalD d = some w) : v = w := by
  cases h with
  | non => exact Option.some.inj e
  | bl _ => exact Option.some.inj e
  | int _ => exact Option.some.inj e
  | str _ => exact Option.some.inj e
  | lst _ _ _ => cases e
  | tup _ _ => cases e
theorem decI {i j : Int} : decide (V.int i = V.int j) = decide (i = j) := by
  by_cases h : i = j
  · subst h; simp
  · rw [decide_eq_false h, decide_eq_false (fun e => h (V.int.inj e))]
def isNoneD : PyData → Bool
  | .none => true
  | _ => false
theorem Bo.isN {v : V} (h : Bo c H v d) : decide (v = V.non) = isNoneD d := by
  cases h <;> simp [isNoneD]
/-- is None -/
theorem d_isN (ha : Ev c ta Γ ka x) : Ev c (tOp (fun x y H Q => y = .non ∧ Q (.bl (decide (x = .non))) H) ta (tC .non)) Γ .v (.bool (isNoneD x)) :=
  d_bin ha d_non fun H O v u Q bv bu q => ⟨bu.non', by rw [bv.isN]; exact q _ H Rr.rf (.bl _)⟩
theorem inV_ints {i : Int} {ns : List Int} : inV (.int i) (ns.map V.int) = decide (i ∈ ns) := by
  induction ns with
  | nil => rfl
  | cons n ns ih =>
    have e : inV (.int i) ((n :: ns).map V.int) = (eqV (.int n) (.int i) || inV (.int i) (ns.map V.int)) := rfl
    rw [e, ih]
    show (decide (n = i) || decide (i ∈ ns)) = _
    by_cases h : n = i
    · subst h; simp
    · have h' : ¬ i = n := fun e => h e.symm
      simp [h, h']
theorem flatV_ints (ns : List Int) : (ns.map V.int).all flatV = true := by
  rw [List.all_map]
  exact List.all_eq_true.mpr fun _ _ => rfl
theorem d_inL {neg : Bool} {ns : List Int} (ha : Ev c ta Γ ka (.int i)) (hb : Ev c tb Γ kb (.list (ns.map .int))) : Ev c (tOp (rIn c.K neg) ta tb) Γ .v (.bool (if neg then !decide (i ∈ ns) else decide (i ∈ ns))) :=
  d_bin ha hb fun H O v u Q bv bu q => by
    obtain ⟨p, xs, rfl, _, s, al⟩ := bu.lst'
    have := al.ints
    subst this
    rw [bv.int']
    exact ⟨p, _, rfl, .inl s, rfl, flatV_ints ns, by rw [inV_ints]; exact q _ H Rr.rf (.bl _)⟩
/-- an item -/
theorem atI_bo {v : List V} (h : BoAll c H v ds) (e : atI ds i = some d) : ∃ x, atI v i = some x ∧ Bo c H x d := by
  unfold atI at e ⊢
  rw [h.len]
  cases q : ixN ds.length i with
  | none => rw [q] at e; cases e
  | some n =>
    rw [q] at e
    exact h.gets e
/-! ### truth -/
theorem d_notV (ha : Ev c ta Γ ka (.bool a)) : Ev c (tNotV ta) Γ .v (.bool (!a)) := fun H0 O H σ e Q q =>
  ha H0 O H σ e _ fun v H1 r1 s1 => ⟨a, (Res.bo e s1).bl', q _ H1 r1 (.bl _)⟩
theorem d_andV (ha : Ev c ta Γ ka (.bool a)) (hb : a = true → Ev c tb Γ .v (.bool b)) : Ev c (tAndV ta tb) Γ .v (.bool (a && b)) := fun H0 O H σ e Q q =>
  ha H0 O H σ e _ fun v H1 r1 s1 => ⟨a, (Res.bo e s1).bl', by
    cases a with
    | true =>
      refine iteT (hb rfl H0 O H1 σ (e.on r1) _ fun u H2 r2 s2 => ?_)
      rw [(Res.bo (e.on r1) s2).bl']
      exact q _ H2 (r1.tr r2) (.bl _)
    | false => exact iteF (q _ H1 r1 (.bl _))⟩
theorem d_orV (ha : Ev c ta Γ ka (.bool a)) (hb : a = false → Ev c tb Γ .v (.bool b)) : Ev c (tOrV ta tb) Γ .v (.bool (a || b)) := fun H0 O H σ e Q q =>
  ha H0 O H σ e _ fun v H1 r1 s1 => ⟨a, (Res.bo e s1).bl', by
    cases a with
    | false =>
      refine iteF (hb rfl H0 O H1 σ (e.on r1) _ fun u H2 r2 s2 => ?_)
      rw [(Res.bo (e.on r1) s2).bl']
      exact q _ H2 (r1.tr r2) (.bl _)
    | true => exact iteT (q _ H1 r1 (.bl _))⟩
theorem t_test (h : Ev c te Γ k (.bool a)) : EvT c (tTest te) Γ a := fun H0 O H σ e Q q => h H0 O H σ e _ fun v H2 r s => ⟨a, (Res.bo e s).bl', q H2 r⟩
theorem t_B (h : Ev c te Γ k (.bool a)) : EvT c (tB te) Γ a := fun H0 O H σ e Q q => h H0 O H σ e _ fun v H2 r s => ⟨a, (Res.bo e s).bl', q H2 r⟩
theorem t_not (h : EvT c tt Γ a) : EvT c (tNot tt) Γ (!a) := fun H0 O H σ e Q q => h H0 O H σ e _ fun H2 r => q H2 r
theorem t_and (h : EvT c tt Γ a) (g : a = true → EvT c tu Γ b) : EvT c (tAnd tt tu) Γ (a && b) := fun H0 O H σ e Q q => h H0 O H σ e _ fun H2 r => by
  cases a with
  | true => exact iteT (g rfl H0 O H2 σ (e.on r) _ fun H3 r3 => q H3 (r.tr r3))
  | false => exact iteF (q H2 r)
theorem t_or (h : EvT c tt Γ a) (g : a = false → EvT c tu Γ b) : EvT c (tOr tt tu) Γ (a || b) := fun H0 O H σ e Q q => h H0 O H σ e _ fun H2 r => by
  cases a with
  | false => exact iteF (g rfl H0 O H2 σ (e.on r) _ fun H3 r3 => q H3 (r.tr r3))
  | true => exact iteT (q H2 r)
theorem t_yes : EvT c tYes Γ true := fun H0 O H σ e Q q => q H Rr.rf
theorem d_if (h : EvT c tt Γ a) (h1 : a = true → Ev c ta Γ k d) (h2 : a = false → Ev c tb Γ k d) : Ev c (tIf tt ta tb) Γ k d := fun H0 O H σ e Q q => h H0 O H σ e _ fun H1 r1 => by
  cases a with
  | true => exact iteT (h1 rfl H0 O H1 σ (e.on r1) _ fun v H2 r2 s => q v H2 (r1.tr r2) (s.back e r1))
  | false => exact iteF (h2 rfl H0 O H1 σ (e.on r1) _ fun v H2 r2 s => q v H2 (r1.tr r2) (s.back e r1))
/-! ### arguments -/
theorem a_nil : EvA c tNil Γ kv [] := fun H0 O H σ e Q q => q [] H Rr.rf .nil
theorem a_cons (h : Ev c te Γ k d) (hr : EvA c tr Γ false ds) : EvA c (tCons te tr) Γ false (d :: ds) := fun H0 O H σ e Q q =>
  h H0 O H σ e _ fun v H1 r1 s1 => hr H0 O H1 σ (e.on r1) _ fun vs H2 r2 s2 => q _ H2 (r1.tr r2) (.cons (Res.bo e (s1.on e r1 r2)) s2)
theorem a_consV (h : Ev c te Γ .v d) (hr : EvA c tr Γ true ds) : EvA c (tCons te tr) Γ true (d :: ds) := fun H0 O H σ e Q q =>
  h H0 O H σ e _ fun v H1 r1 s1 => hr H0 O H1 σ (e.on r1) _ fun vs H2 r2 s2 => q _ H2 (r1.tr r2) (.cons (s1.on e r1 r2) s2)
end
end Lm


namespace Lm
open PySem PySem.Spec PyProof.Rows L2
variable {c : Ct} {H H' H0 H1 H2 H3 : Hp} {O : List Addr} {σ : L2.St} {Γ Γ' : List (Option Rs)}

/-! ### what is walked -/
/-- an item: data, or a tuple made for the target alone -/
inductive Im where
  | d (x : PyData)
  | t (xs : List Im)
mutual
inductive Lo (c : Ct) (F : Hp) (fz : Bool) (H : Hp) : V → Im → Prop
  | leaf {v : V} {d : PyData} : (flatD d = true ∧ Bo c H v d) ∨ (fz = true ∧ Bo c F v d) → Lo c F fz H v (.d d)
  | tup {a : Addr} {xs : List V} {ds : List Im} : SqT c.K H a xs → LoAll c F fz H xs ds → Lo c F fz H (.ref a) (.t ds)
inductive LoAll (c : Ct) (F : Hp) (fz : Bool) (H : Hp) : List V → List Im → Prop
  | nil : LoAll c F fz H [] []
  | cons {v : V} {vs : List V} {d : Im} {ds : List Im} : Lo c F fz H v d → LoAll c F fz H vs ds → LoAll c F fz H (v :: vs) (d :: ds)
end
theorem LoAll.ofFlat {F : Hp} {fz : Bool} : ∀ {v : List V} {d : List PyData}, flatAll d = true → BoAll c H v d → LoAll c F fz H v (d.map Im.d)
  | _, _, _, .nil => .nil
  | _, _, q, .cons a b => by
    have q' : (flatD _ && flatAll _) = true := q
    rw [Bool.and_eq_true] at q'
    exact .cons (.leaf (.inl ⟨q'.1, a⟩)) (LoAll.ofFlat q'.2 b)
theorem LoAll.ofFz {F : Hp} : ∀ {v : List V} {d : List PyData}, BoAll c F v d → LoAll c F true H v (d.map Im.d)
  | _, _, .nil => .nil
  | _, _, .cons a b => .cons (.leaf (.inr ⟨rfl, a⟩)) (LoAll.ofFz b)
theorem LoAll.len {F : Hp} {fz : Bool} : ∀ {v : List V} {d : List Im}, LoAll c F fz H v d → v.length = d.length
  | _, _, .nil => rfl
  | _, _, .cons _ b => by simp [LoAll.len b]
/-- a tuple's parts -/
theorem Lo.parts {F : Hp} {fz : Bool} {v : V} {ds : List PyData} (j : Ji c F) (r : Rr c F H) (h : Lo c F fz H v (.d (.tuple ds))) : ∃ a xs, v = .ref a ∧ SqT c.K H a xs ∧ LoAll c F fz H xs (ds.map Im.d) := by
  cases h with
  | leaf h =>
    rcases h with ⟨q, b⟩ | ⟨q, b⟩
    · obtain ⟨a, xs, rfl, s, al⟩ := b.tup'
      exact ⟨a, xs, rfl, s.sq, .ofFlat (by simpa [flatD] using q) al⟩
    · obtain ⟨a, xs, rfl, s, al⟩ := b.tup'
      subst q
      exact ⟨a, xs, rfl, (r.tup j s).sq, .ofFz al⟩
def WD (c : Ct) (F : Hp) (fz : Bool) (J : It) (ds : List Im) : Prop :=
  Ji c F ∧ Walk J ds.length (fun H => Rr c F H) (fun i H x H' => Same H H' ∧ ∃ d, ds[i]? = some d ∧ Lo c F fz H' x d)
def EvI (c : Ct) (wi : TI) (Γ : List (Option Rs)) (fz : Bool) (ds : List Im) : Prop :=
  ∀ H0 O H σ, Env c H0 O H σ Γ → ∀ R : It → Hp → Prop, (∀ J H1, Rr c H H1 → WD c (if fz then mns H1 O else H1) fz J ds → R J H1) → wi σ H R
/-- a target takes an item -/
def EvG (c : Ct) (g : TG) (d : Im) (Γ Γ' : List (Option Rs)) (js : List Nat) : Prop :=
  ∀ H0 O H σ F fz x, Env c H0 O H σ Γ → Ji c F → Rr c F H → (fz = true → Rr c F (mns H O)) → Lo c F fz H x d → ∀ Q : L2.St → Hp → Prop,
    (∀ σ', Env c H0 O H σ' Γ' → (∀ vs, (∀ j ∈ js, j ∈ vs) → wipe σ' vs = wipe σ vs) → Q σ' H) → g x σ H Q
def EvGs (c : Ct) (g : TGs) (ds : List Im) (Γ Γ' : List (Option Rs)) (js : List Nat) : Prop :=
  ∀ H0 O H σ F fz xs, Env c H0 O H σ Γ → Ji c F → Rr c F H → (fz = true → Rr c F (mns H O)) → LoAll c F fz H xs ds → ∀ Q : L2.St → Hp → Prop,
    (∀ σ', Env c H0 O H σ' Γ' → (∀ vs, (∀ j ∈ js, j ∈ vs) → wipe σ' vs = wipe σ vs) → Q σ' H) → g xs σ H Q
theorem wipe_set {x : Option V} {j : Nat} {σ : L2.St} : ∀ {vs : List Nat}, j ∈ vs → wipe (σ.set j x) vs = wipe σ vs
  | [], h => by simp at h
  | v :: vs, h => by
    unfold wipe
    by_cases hj : j ∈ vs
    · rw [wipe_set hj]
    · have e : j = v := by simpa [hj] using h
      subst e
      have : ∀ (us : List Nat) (σ : L2.St), (wipe (σ.set j x) us).set j none = (wipe σ us).set j none := by
        intro us
        induction us with
        | nil => intro σ; simp [wipe]
        | cons u us ih =>
          intro σ
          show ((wipe (σ.set j x) us).set u none).set j none = ((wipe σ us).set u none).set j none
          by_cases q : u = j
          · subst q; simpa using ih σ
          · rw [List.set_comm _ _ q, ih σ, List.set_comm _ _ (fun z => q z.symm)]
      exact this vs σ
theorem wipe_wipe {σ : L2.St} : ∀ {vs us : List Nat}, (∀ v ∈ vs, v ∈ us) → wipe (wipe σ vs) us = wipe σ us
  | [], us, h => rfl
  | v :: vs, us, h => by
    show wipe ((wipe σ vs).set v none) us = wipe σ us
    rw [wipe_set (h v (by simp)), wipe_wipe fun w hw => h w (by simp [hw])]
def wipeG (Γ : List (Option Rs)) : List Nat → List (Option Rs)
  | [] => Γ
  | v :: vs => (wipeG Γ vs).set v none
theorem Env.wipe (e : Env c H0 O H σ Γ) : ∀ vs : List Nat, Env c H0 O H (L2.wipe σ vs) (wipeG Γ vs)
  | [] => e
  | v :: vs => (Env.wipe e vs).setN
theorem g_name {j : Nat} {d : PyData} : EvG c (gName j) (.d d) Γ (Γ.set j (some (.v d))) [j] := fun H0 O H σ F fz x e jF rF rM h Q q => by
  have b : Bo c (mns H O) x d := by
    cases h with
    | leaf h =>
      rcases h with ⟨f, b⟩ | ⟨f, b⟩
      · exact b.flatTo (fun a xs s => sqT_mns (fun b hb => e.dm b hb) s) f
      · exact b.mono jF (rM f)
  exact q _ (e.setV b) fun vs hv => wipe_set (hv j (by simp))
theorem g_nil : EvGs c gNil [] Γ Γ [] := fun H0 O H σ F fz xs e jF rF rM h Q q => by
  cases h
  exact ⟨rfl, q σ e fun _ _ => rfl⟩
theorem g_cons {g : TG} {gs : TGs} {d : Im} {ds : List Im} {Γ1 Γ2 : List (Option Rs)} {js ks : List Nat} (h : EvG c g d Γ Γ1 js) (hs : EvGs c gs ds Γ1 Γ2 ks) : EvGs c (gCons g gs) (d :: ds) Γ Γ2 (js ++ ks) := fun H0 O H σ F fz xs e jF rF rM l Q q => by
  cases l with
  | cons a b =>
    exact ⟨_, _, rfl, h H0 O H σ F fz _ e jF rF rM a _ fun σ1 e1 w1 => hs H0 O H σ1 F fz _ e1 jF rF rM b _ fun σ2 e2 w2 => q σ2 e2 fun vs hv =>
      (w2 vs fun j hj => hv j (by simp [hj])).trans (w1 vs fun j hj => hv j (by simp [hj]))⟩
theorem g_tup {n : Nat} {gs : TGs} {ds : List Im} {js : List Nat} (hn : ds.length = n) (hs : EvGs c gs ds Γ Γ' js) : EvG c (gTup c.K n gs) (.t ds) Γ Γ' js := fun H0 O H σ F fz x e jF rF rM h Q q => by
  cases h with
  | tup s al => exact ⟨_, _, rfl, s, al.len.trans hn, hs H0 O H σ F fz _ e jF rF rM al Q q⟩
theorem g_tupD {n : Nat} {gs : TGs} {ds : List PyData} {js : List Nat} (hn : ds.length = n) (hs : EvGs c gs (ds.map Im.d) Γ Γ' js) : EvG c (gTup c.K n gs) (.d (.tuple ds)) Γ Γ' js := fun H0 O H σ F fz x e jF rF rM h Q q => by
  obtain ⟨a, xs, rfl, s, al⟩ := h.parts jF rF
  exact ⟨_, _, rfl, s, al.len.trans (by simpa using hn), hs H0 O H σ F fz _ e jF rF rM al Q q⟩
end Lm


namespace Lm
open PySem PySem.Spec PyProof.Rows L2
variable {c : Ct} {H H' H0 H1 H2 H3 : Hp} {O : List Addr} {σ : L2.St} {Γ Γ' : List (Option Rs)}
variable {te ta tb tx tl : TE} {tt tu : TT} {tr : TA} {k ka kb : Kd} {d x y z : PyData} {i j : Int} {a b : Bool} {kv fz : Bool} {ds es : List PyData}

/-! ### what is walked: lists, tuples, ranges -/
theorem sizeOk {n : Nat} (h : n ≤ 1000000) : n ≤ sizeLine := Nat.le_trans h (by decide)
theorem map_get? {α : Type} {f : PyData → α} {i : Nat} {d : PyData} (h : ds[i]? = some d) : (ds.map f)[i]? = some (f d) := by simp [h]
/-- the frozen part -/
theorem Res.frozen {v : V} (e : Env c H0 O H σ Γ) (r : Rr c H H2) (h : Res c O H H2 v d k) (hk : k ≠ .b) : Bo c (mns H2 O) v d := by
  cases k with
  | v => exact h
  | o =>
    obtain ⟨fp, f, nd, new⟩ := h
    have e2 := e.on r
    have no : ∀ a ∈ fp, a ∉ O := fun a ha hO => by
      obtain ⟨xs, q, _⟩ := e.dm a hO
      rw [new a ha] at q
      cases q
    exact (f.up (fun a xs s => sqT_mns (fun b hb => e2.dm b hb) s) fun a ha o q => by rw [mns_out (no a ha)]; exact q).bo fun a ha => okA.fresh e.jH (new a ha)
  | b => exact absurd rfl hk
theorem i_core {J : It} {xs : List V} {F : Hp} (jF : Ji c F) (hw : Walk J xs.length (fun H => Rr c F H) (YAt xs)) (hb : BoAll c F xs ds) (hf : fz = true ∨ flatAll ds = true) : WD c F fz J (ds.map Im.d) := by
  refine ⟨jF, ?_⟩
  have hl : xs.length = (ds.map Im.d).length := by rw [hb.len]; simp
  rw [hl] at hw
  refine hw.mono (fun _ h => h) fun i H x H' hi g y => ?_
  obtain ⟨rfl, hx⟩ := y
  obtain ⟨d, hd, bd⟩ := hb.get hx
  refine ⟨Same.refl _, .d d, map_get? hd, .leaf ?_⟩
  rcases hf with hf | hf
  · exact .inr ⟨hf, bd⟩
  · refine .inl ⟨?_, bd.mono jF g⟩
    have : ∀ (l : List PyData), flatAll l = true → ∀ d ∈ l, flatD d = true := by
      intro l
      induction l with
      | nil => intro _ _ h; simp at h
      | cons a l ih =>
        intro q d hd
        have q' : (flatD a && flatAll l) = true := q
        rw [Bool.and_eq_true] at q'
        rcases List.mem_cons.mp hd with w | w
        · rw [w]; exact q'.1
        · exact ih q'.2 d w
    exact this ds hf d (List.mem_of_getElem? hd)
theorem i_listB (h : Ev c tl Γ k (.list ds)) (hf : flatAll ds = true) : EvI c (iList c.K tl) Γ false (ds.map Im.d) := fun H0 O H σ e R q =>
  h H0 O H σ e _ fun v H1 r s => by
    obtain ⟨p, xs, rfl, kp, sl, al⟩ := (Res.bo e s).lst'
    have j1 := (e.on r).jH
    exact ⟨p, rfl, ⟨xs, sl⟩, q _ H1 r (i_core j1 (walk_list.mono (fun H h => h.lst kp sl) fun _ _ _ _ _ _ y => y) al (.inr hf))⟩
theorem i_list (h : Ev c tl Γ k (.list ds)) (hk : k ≠ .b) : EvI c (iList c.K tl) Γ true (ds.map Im.d) := fun H0 O H σ e R q =>
  h H0 O H σ e _ fun v H1 r s => by
    obtain ⟨p, xs, rfl, kp, sl, al⟩ := (Res.frozen e r s hk).lst'
    exact ⟨p, rfl, ⟨xs, mns_same.seq sl⟩, q _ H1 r (i_core (e.on r).j (walk_list.mono (fun H h => h.lst kp sl) fun _ _ _ _ _ _ y => y) al (.inl rfl))⟩
theorem i_tup (h : Ev c tl Γ k (.tuple ds)) (hk : k ≠ .b) : EvI c (iTup c.K tl) Γ true (ds.map Im.d) := fun H0 O H σ e R q =>
  h H0 O H σ e _ fun v H1 r s => by
    obtain ⟨p, xs, rfl, sl, al⟩ := (Res.frozen e r s hk).tup'
    exact ⟨p, rfl, ⟨xs, (sqT_same mns_same sl).sq⟩, q _ H1 r (i_core (e.on r).j (walk_tup.mono (fun H h => (h.tup (e.on r).j sl).sq) fun _ _ _ _ _ _ y => y) al (.inl rfl))⟩
/-- the upI from lo on, n of them -/
def upI (lo : Int) (n : Nat) : List Int := (List.range n).map fun (i : Nat) => lo + (i : Int)
theorem i_range {F : Hp} (jF : Ji c F) {lo : Int} {n : Nat} : WD c F fz (Itr lo n) ((upI lo n).map fun i => Im.d (.int i)) := by
  refine ⟨jF, ?_⟩
  have hl : ((upI lo n).map fun i => Im.d (.int i)).length = n := by simp [upI]
  rw [hl]
  refine walk_range.mono (fun _ _ => trivial) fun i H x H' hi g y => ?_
  obtain ⟨rfl, rfl⟩ := y
  exact ⟨Same.refl _, .d (.int (lo + i)), by simp [upI, hi], .leaf (.inl ⟨rfl, .int _⟩)⟩
theorem i_rng1 {n : Int} (h : EvA c tr Γ kv [.int n]) (hn : n ≤ 1000000) (hn' : -1000000 ≤ n) : EvI c (iRng1 tr) Γ true ((upI 0 n.toNat).map fun i => Im.d (.int i)) := fun H0 O H σ e R q =>
  h H0 O H σ e _ fun vs H1 r s => by
    cases s with
    | cons b bs =>
      cases bs
      have := b.int'
      subst this
      exact ⟨n, rfl, by omega, by omega, q _ H1 r (i_range (e.on r).j)⟩
/-! ### comprehensions -/
theorem flatAll_one {d : PyData} {ds : List PyData} (h : flatAll ds = true) (m : d ∈ ds) : flatD d = true := by
  induction ds with
  | nil => simp at m
  | cons a l ih =>
    have q' : (flatD a && flatAll l) = true := h
    rw [Bool.and_eq_true] at q'
    rcases List.mem_cons.mp m with w | w
    · rw [w]; exact q'.1
    · exact ih q'.2 w
theorem ifFz {F : Hp} {H1 : Hp} {O : List Addr} (e : Env c H0 O H σ Γ) (r1 : Rr c H H1) (r : Rr c H1 H2) : Rr c (if fz then mns H1 O else H1) H2 ∧ (fz = true → Rr c (if fz then mns H1 O else H1) (mns H2 O)) := by
  cases fz with
  | true => exact ⟨(Rr.same mns_same).tr r, fun _ => r.mns (e.on r1).j e.okO⟩
  | false => exact ⟨r, fun h => nomatch h⟩
theorem n_lc {wi : TI} {g : TG} {vs : List Nat} {items : List Im} (M : Nat → List PyData → Prop) (hi : EvI c wi Γ fz items) (hl : items.length ≤ 1000000) (h0 : M 0 [])
    (hb : ∀ (n : Nat) (a : Im) (acc : List PyData), items[n]? = some a → M n acc → ∃ Γ' js, EvG c g a (wipeG Γ vs) Γ' js ∧ (∀ j ∈ js, j ∈ vs) ∧
      ∃ (b : Bool) (P : PyData → Prop), EvT c tt Γ' b ∧ (b = true → EvN c te Γ' .o P ∧ ∀ d, P d → M (n + 1) (acc ++ [d])) ∧ (b = false → M (n + 1) acc)) :
    EvN c (tLc wi g tt te vs) Γ .o (fun d => ∃ acc, d = .list acc ∧ M items.length acc) := fun H0 O H σ e Q q =>
  hi H0 O H σ e _ fun J H1 r1 w D hD => by
    obtain ⟨jF, w⟩ := w
    refine lc_it w (fun n H' => Rr c H1 H' ∧ ∃ acc ds fp, H' D = some (.lst acc) ∧ FoAll c H' acc ds fp ∧ fp.Nodup ∧ (∀ a ∈ fp, H1 a = none) ∧ D ∉ fp ∧ ds.length ≤ n ∧ M n ds) ?_ ?_ ?_ ?_
    · exact ⟨Rr.same fun b o z => by rw [upd_ne (ne_of_none z hD)]; exact z, [], [], [], upd_same, .nil, List.nodup_nil, (fun _ h => nomatch h), (fun h => nomatch h), Nat.le_refl _, h0⟩
    · intro n H' _ p
      exact (ifFz (F := H) e r1 p.1).1
    · rintro n x H' H'' hn ⟨p1, acc, ds, fp, p2, p3, p4, p5, p6, p7, p8⟩ ⟨sm, im, him, lo⟩
      have e2 : Env c H0 O H'' σ Γ := e.on ((r1.tr p1).tr (Rr.same sm))
      have fzz := ifFz (fz := fz) (F := H) e r1 (p1.tr (Rr.same sm))
      obtain ⟨Γ', js, hg, hjs, b, P, ht, hy, hno⟩ := hb n im ds him p8
      refine hg H0 O H'' _ _ fz x (e2.wipe vs) jF fzz.1 fzz.2 lo _ fun σ2 e3 hw => ⟨(hw vs hjs).trans (wipe_wipe fun _ h => h), ht H0 O H'' σ2 e3 _ fun H3 r3 => ?_⟩
      have p3' : FoAll c H'' acc ds fp := p3.up (fun _ _ s => sqT_same sm s) fun a _ o z => sm a o z
      have okf : ∀ a ∈ fp, okA c a := fun a ha => okA.fresh (e.on r1).jH (p5 a ha)
      have okD : okA c D := okA.fresh (e.on r1).jH hD
      have f3 : FoAll c H3 acc ds fp := p3'.up (fun _ _ s => r3.tup e2.jH s) fun a ha o z => r3.1 a o (okf a ha) z
      have D3 : H3 D = some (.lst acc) := r3.1 D _ okD (sm _ _ p2)
      have r13 : Rr c H1 H3 := (p1.tr (Rr.same sm)).tr r3
      cases b with
      | true =>
        refine iteT ?_
        obtain ⟨hyN, hyM⟩ := hy rfl
        refine hyN H0 O H3 σ2 (e3.on r3) _ fun v d H4 pd r4 s4 => ?_
        obtain ⟨fq, f4, nq, newq⟩ := s4
        have e3' := e3.on r3
        have D4 : H4 D = some (.lst acc) := r4.1 D _ okD D3
        have f3' : FoAll c H4 acc ds fp := f3.up (fun _ _ s => r4.tup e3'.jH s) fun a ha o z => r4.1 a o (okf a ha) z
        have Dq : D ∉ fq := fun z => by rw [newq D z] at D3; cases D3
        have all : FoAll c H4 (acc ++ [v]) (ds ++ [d]) (fp ++ (fq ++ [])) := f3'.app (.cons f4 .nil)
        rw [List.append_nil] at all
        have lacc : acc.length = ds.length := (f3'.bo okf).len
        have hle : ds.length ≤ 1000000 := by omega
        have nodq : ∀ a ∈ fp, a ∉ fq := fun a ha hq => by
          obtain ⟨xs, z⟩ := f3.isL a ha
          rw [newq a hq] at z; cases z
        refine ⟨acc, D4, by rw [lacc, sizeLine_eq]; omega, ?_, acc ++ [v], ds ++ [d], fp ++ fq, upd_same, ?_, ?_, ?_, ?_, by simp; omega, hyM d pd⟩
        · refine ⟨fun a o ok z => ?_, fun jj => ?_⟩
          · rw [upd_ne (ne_of_none z hD)]; exact (r13.tr r4).1 a o ok z
          · intro st l eq
            obtain ⟨ns, x, k, g1, g2, g3, g4⟩ := (r13.tr r4).2 jj st l eq
            have d1 : st ≠ D := fun z => by
              obtain ⟨ns', x', k', g1', _⟩ := jj st l eq
              rw [z, hD] at g1'; cases g1'
            have d2 : l ≠ D := fun z => by
              obtain ⟨ns', x', k', _, g2', _⟩ := jj st l eq
              rw [z, hD] at g2'; cases g2'
            exact ⟨ns, x, k, by rw [upd_ne d1]; exact g1, by rw [upd_ne d2]; exact g2, g3, g4⟩
        · refine all.up (fun _ _ s => sqT_upd D4 s) fun a ha o z => ?_
          have : a ≠ D := fun w => by
            subst w
            rcases List.mem_append.mp ha with u | u
            · exact p6 u
            · exact Dq u
          rw [upd_ne this]; exact z
        · rw [List.nodup_append]
          exact ⟨p4, nq, fun a ha b hb z => by subst z; exact nodq a ha hb⟩
        · intro a ha
          rcases List.mem_append.mp ha with u | u
          · exact p5 a u
          · exact r13.back (e.on r1).jH (newq a u)
        · intro z
          rcases List.mem_append.mp z with u | u
          · exact p6 u
          · exact Dq u
      | false =>
        exact iteF ⟨r13, acc, ds, fp, D3, f3, p4, p5, p6, by omega, hno rfl⟩
    · rintro H' ⟨p1, acc, ds, fp, p2, p3, p4, p5, p6, p7, p8⟩
      refine q (.ref D) (.list ds) H' ⟨ds, rfl, p8⟩ (r1.tr p1) ⟨D :: fp, .lst p2 p3, ?_, fun a ha => ?_⟩
      · exact List.nodup_cons.mpr ⟨p6, p4⟩
      · rcases List.mem_cons.mp ha with w | w
        · rw [w]; exact r1.back e.jH hD
        · exact r1.back e.jH (p5 a w)
theorem d_lc {α : Type} {wi : TI} {g : TG} {vs : List Nat} {l : List α} {en : α → Im} (p : α → Bool) (m : α → PyData) (hi : EvI c wi Γ fz (l.map en)) (hl : l.length ≤ 1000000)
    (hb : ∀ a ∈ l, ∃ Γ' js, EvG c g (en a) (wipeG Γ vs) Γ' js ∧ (∀ j ∈ js, j ∈ vs) ∧ EvT c tt Γ' (p a) ∧ (p a = true → Ev c te Γ' .o (m a))) :
    Ev c (tLc wi g tt te vs) Γ .o (.list ((l.filter p).map m)) := by
  refine ((n_lc (fun n acc => acc = ((l.take n).filter p).map m) hi (by simpa using hl) rfl ?_).imp ?_).det
  · intro n a acc hn hacc
    rw [List.getElem?_map] at hn
    cases ha : l[n]? with
    | none => rw [ha] at hn; cases hn
    | some a0 =>
      rw [ha] at hn
      have : en a0 = a := Option.some.inj hn
      subst this
      have tk : l.take (n + 1) = l.take n ++ [a0] := by
        rw [List.take_add_one, ha]; rfl
      obtain ⟨Γ', js, h1, h2, h3, h4⟩ := hb a0 (List.mem_of_getElem? ha)
      refine ⟨Γ', js, h1, h2, p a0, fun d => d = m a0, h3, fun hp => ⟨(h4 hp).n, fun d hd => ?_⟩, fun hp => ?_⟩
      · rw [hacc, tk, hd]; simp [hp]
      · rw [hacc, tk]; simp [hp]
  · rintro d ⟨acc, rfl, h⟩
    have : (l.map en).length = l.length := by simp
    rw [this, List.take_length] at h
    rw [h]
/-- without a test -/
theorem d_lcA {α : Type} {wi : TI} {g : TG} {vs : List Nat} {l : List α} {en : α → Im} (m : α → PyData) (hi : EvI c wi Γ fz (l.map en)) (hl : l.length ≤ 1000000)
    (hb : ∀ a ∈ l, ∃ Γ' js, EvG c g (en a) (wipeG Γ vs) Γ' js ∧ (∀ j ∈ js, j ∈ vs) ∧ Ev c te Γ' .o (m a)) :
    Ev c (tLc wi g tYes te vs) Γ .o (.list (l.map m)) := by
  have := d_lc (te := te) (tt := tYes) (g := g) (vs := vs) (fun _ => true) m hi hl fun a ha => by
    obtain ⟨Γ', js, h1, h2, h3⟩ := hb a ha
    exact ⟨Γ', js, h1, h2, t_yes, fun _ => h3⟩
  have e : l.filter (fun _ => true) = l := List.filter_eq_self.mpr fun _ _ => rfl
  rwa [e] at this
end Lm


namespace Lm
open PySem PySem.Spec PyProof.Rows L2
variable {c : Ct} {H H' H0 H1 H2 H3 : Hp} {O : List Addr} {σ : L2.St} {Γ Γ' Γ1 : List (Option Rs)}
variable {te ta tb tx tl : TE} {tt tu : TT} {tr : TA} {k ka kb : Kd} {d x y z : PyData} {i j : Int} {a b : Bool} {kv fz : Bool} {ds es : List PyData}

/-! ### how a statement ends -/
inductive Out where
  | nx (Γ : List (Option Rs))
  | rt (k : Kd) (d : PyData)
  | bk (Γ : List (Option Rs))
  | ct (Γ : List (Option Rs))
def Rt (c : Ct) (H0 H : Hp) (v : V) (d : PyData) : Kd → Prop
  | .v => flatD d = true ∧ Bo c H v d
  | .o => ∃ fp, Fo c H v d fp ∧ fp.Nodup ∧ ∀ a ∈ fp, H0 a = none
  | .b => (∃ x, c.so = some x) ∧ Bo c H v d
def Sat (c : Ct) (H0 : Hp) (D : Ends) : Out → Prop
  | .nx Γ => ∀ O H σ, Env c H0 O H σ Γ → D.nx σ H
  | .rt k d => ∀ v H, Rr c H0 H → Rt c H0 H v d k → D.rt v H
  | .bk Γ => ∀ O H σ, Env c H0 O H σ Γ → D.bk σ H
  | .ct Γ => ∀ O H σ, Env c H0 O H σ Γ → D.ct σ H
def Sd (c : Ct) (t : TS) (Γ : List (Option Rs)) (P : Out → Prop) : Prop :=
  ∀ H0 O H σ D, Env c H0 O H σ Γ → (∀ o, P o → Sat c H0 D o) → t D σ H
section
variable {t u w : TS} {P P1 : Out → Prop} {n : Nat}
theorem Env.back0 (e : Env c H0 O H σ Γ) {a : Addr} (h : mns H O a = none) : H0 a = none := by
  cases q : H0 a with
  | none => rfl
  | some o =>
    have k : okA c a := fun st l z w => by
      obtain ⟨ns, x, k, g1, _⟩ := e.j st l z
      rw [← w, h] at g1
      cases g1
    have := e.r0.1 a o k q
    rw [h] at this
    cases this
theorem s_next (h : P (.nx Γ)) : Sd c tNext Γ P := fun H0 O H σ D e s => s _ h O H σ e
theorem s_brk (h : P (.bk Γ)) : Sd c tBreak Γ P := fun H0 O H σ D e s => s _ h O H σ e
theorem s_seq (h : Sd c t Γ P1) (hn : ∀ Γ1, P1 (.nx Γ1) → Sd c u Γ1 P) (hr : ∀ k d, P1 (.rt k d) → P (.rt k d)) (hb : ∀ Γ1, P1 (.bk Γ1) → P (.bk Γ1)) (hc : ∀ Γ1, P1 (.ct Γ1) → P (.ct Γ1)) : Sd c (tSeq t u) Γ P := fun H0 O H σ D e s =>
  h H0 O H σ _ e fun o po => match o with
    | .nx Γ1 => fun O1 H1 σ1 e1 => hn Γ1 po H0 O1 H1 σ1 D e1 s
    | .rt k d => fun v H1 r q => s _ (hr k d po) v H1 r q
    | .bk Γ1 => fun O1 H1 σ1 e1 => s _ (hb Γ1 po) O1 H1 σ1 e1
    | .ct Γ1 => fun O1 H1 σ1 e1 => s _ (hc Γ1 po) O1 H1 σ1 e1
theorem s_seq1 (h : Sd c t Γ (fun o => o = .nx Γ1)) (hn : Sd c u Γ1 P) : Sd c (tSeq t u) Γ P :=
  s_seq h (fun _ e => by cases e; exact hn) (fun _ _ e => nomatch e) (fun _ e => nomatch e) (fun _ e => nomatch e)
theorem Sd.imp (h : Sd c t Γ P1) (i : ∀ o, P1 o → P o) : Sd c t Γ P := fun H0 O H σ D e s => h H0 O H σ D e fun o po => s o (i o po)
/-- another description of the slots -/
theorem Sd.pre (h : Sd c t Γ1 P) (i : ∀ H0 O H σ, Env c H0 O H σ Γ → ∃ O', Env c H0 O' H σ Γ1) : Sd c t Γ P := fun H0 O H σ D e s => by
  obtain ⟨O', e'⟩ := i H0 O H σ e
  exact h H0 O' H σ D e' s
theorem s_freeze (h : Γ[n]? = some (some (.o d))) (hs : Sd c t (Γ.set n (some (.v d))) P) : Sd c t Γ P :=
  hs.pre fun H0 O H σ e => let ⟨O', e', _⟩ := e.freeze h; ⟨O', e'⟩
/-- what an expression gave is stored: to be returned -/
theorem Rt.of {v : V} (e : Env c H0 O H σ Γ) (r : Rr c H H2) (h : Res c O H H2 v d k) (hk : k = .o ∨ (k = .v ∧ flatD d = true)) : Rt c H0 H2 v d k := by
  rcases hk with rfl | ⟨rfl, f⟩
  · obtain ⟨fp, q, nd, new⟩ := h
    refine ⟨fp, q, nd, fun a ha => e.back0 ?_⟩
    have : a ∉ O := fun z => by
      obtain ⟨xs, w, _⟩ := e.dm a z
      rw [new a ha] at w; cases w
    rw [mns_out this]; exact new a ha
  · exact ⟨f, Bo.same mns_same h⟩
theorem s_ret (h : Ev c te Γ k d) (hk : k = .o ∨ (k = .v ∧ flatD d = true)) (p : P (.rt k d)) : Sd c (tRet te) Γ P := fun H0 O H σ D e s =>
  h H0 O H σ e _ fun v H2 r q => s _ p v H2 (e.rH.tr r) (Rt.of e r q hk)
theorem s_retN (Pd : PyData → Prop) (h : EvN c te Γ k Pd) (hk : k = .o ∨ (k = .v ∧ ∀ d, Pd d → flatD d = true)) (p : ∀ d, Pd d → P (.rt k d)) : Sd c (tRet te) Γ P := fun H0 O H σ D e s =>
  h H0 O H σ e _ fun v d H2 pd r q => s _ (p d pd) v H2 (e.rH.tr r) (Rt.of e r q (hk.imp id fun w => ⟨w.1, w.2 d pd⟩))
theorem s_asg (h : Ev c te Γ .v d) (p : P (.nx (Γ.set n (some (.v d))))) : Sd c (tAsg te (gName n)) Γ P := fun H0 O H σ D e s =>
  h H0 O H σ e _ fun v H2 r q => s _ p O H2 _ ((e.on r).setV q)
theorem s_asgO (h : Ev c te Γ .o d) (p : P (.nx (Γ.set n (some (.o d))))) : Sd c (tAsg te (gName n)) Γ P := fun H0 O H σ D e s =>
  h H0 O H σ e _ fun v H2 r ⟨fp, f, nd, new⟩ => s _ p _ H2 _ (e.setO r f nd new)
theorem q_asg (h : Ev c te Γ .v d) (p : Sd c u (Γ.set n (some (.v d))) P) : Sd c (tSeq (tAsg te (gName n)) u) Γ P := s_seq1 (s_asg h rfl) p
theorem q_asgO (h : Ev c te Γ .o d) (p : Sd c u (Γ.set n (some (.o d))) P) : Sd c (tSeq (tAsg te (gName n)) u) Γ P := s_seq1 (s_asgO h rfl) p
theorem q_asgN (Pd : PyData → Prop) (h : EvN c te Γ .v Pd) (p : ∀ d, Pd d → Sd c u (Γ.set n (some (.v d))) P) : Sd c (tSeq (tAsg te (gName n)) u) Γ P := fun H0 O H σ D e s =>
  h H0 O H σ e _ fun v d H2 pd r q => p d pd H0 O H2 _ D ((e.on r).setV q) s
theorem q_asgNO (Pd : PyData → Prop) (h : EvN c te Γ .o Pd) (p : ∀ d, Pd d → Sd c u (Γ.set n (some (.o d))) P) : Sd c (tSeq (tAsg te (gName n)) u) Γ P := fun H0 O H σ D e s =>
  h H0 O H σ e _ fun v d H2 pd r ⟨fp, f, nd, new⟩ => p d pd H0 _ H2 _ D (e.setO r f nd new) s
theorem q_drop (h : Ev c te Γ k d) (p : Sd c u Γ P) : Sd c (tSeq (tDrop te) u) Γ P := fun H0 O H σ D e s =>
  h H0 O H σ e _ fun v H2 r q => p H0 O H2 σ D (e.on r) s
theorem s_drop (h : Ev c te Γ k d) (p : P (.nx Γ)) : Sd c (tDrop te) Γ P := fun H0 O H σ D e s =>
  h H0 O H σ e _ fun v H2 r q => s _ p O H2 σ (e.on r)
theorem s_if (h : EvT c tt Γ a) (h1 : a = true → Sd c t Γ P) (h2 : a = false → Sd c u Γ P) : Sd c (tIfS tt t u) Γ P := fun H0 O H σ D e s =>
  h H0 O H σ e _ fun H2 r => by
    cases a with
    | true => exact iteT (h1 rfl H0 O H2 σ D (e.on r) s)
    | false => exact iteF (h2 rfl H0 O H2 σ D (e.on r) s)
/-- if, then the rest -/
theorem q_if (h : EvT c tt Γ a) (h1 : a = true → Sd c (tSeq t w) Γ P) (h2 : a = false → Sd c (tSeq u w) Γ P) : Sd c (tSeq (tIfS tt t u) w) Γ P := fun H0 O H σ D e s =>
  h H0 O H σ e _ fun H2 r => by
    cases a with
    | true => exact iteT (h1 rfl H0 O H2 σ D (e.on r) s)
    | false => exact iteF (h2 rfl H0 O H2 σ D (e.on r) s)
theorem q_next (h : Sd c u Γ P) : Sd c (tSeq tNext u) Γ P := fun H0 O H σ D e s => h H0 O H σ D e s
theorem q_ret (h : Ev c te Γ k d) (hk : k = .o ∨ (k = .v ∧ flatD d = true)) (p : P (.rt k d)) : Sd c (tSeq (tRet te) u) Γ P := fun H0 O H σ D e s =>
  h H0 O H σ e _ fun v H2 r q => s _ p v H2 (e.rH.tr r) (Rt.of e r q hk)
/-- if that surely is not so (or is) -/
theorem q_no (h : EvT c tt Γ false) (h2 : Sd c w Γ P) : Sd c (tSeq (tIfS tt t tNext) w) Γ P := q_if h (fun e => nomatch e) (fun _ => q_next h2)
theorem s_no (h : EvT c tt Γ false) (h2 : Sd c u Γ P) : Sd c (tIfS tt t u) Γ P := s_if h (fun e => nomatch e) (fun _ => h2)
/-- xs.append(e) -/
theorem s_app (hx : Γ[n]? = some (some (.o (.list ds)))) (h : Ev c te Γ k d) (hf : flatD d = true) (hl : ds.length < 1000000) (p : P (.nx (Γ.set n (some (.o (.list (ds ++ [d]))))))) : Sd c (tDrop (tBM c.K "list" rAppend (tVar n) (tCons te tNil))) Γ P := fun H0 O H σ D e s => by
  obtain ⟨q, xs, f, hq, hp, fa, qf, qO, _⟩ := e.write (es := ds ++ [d]) hx
  refine ⟨.ref q, hq, .inl ⟨rfl, xs, .inl (.inl hp)⟩, h H0 O H σ e _ fun v H2 r rs => ?_⟩
  have e2 := e.on r
  obtain ⟨q', xs', f', hq', hp', fa', qf', qO', wr⟩ := e2.write (es := ds ++ [d]) hx
  have : q' = q := by rw [hq] at hq'; cases hq'; rfl
  subst this
  have bo : Bo c H2 v d := Res.bo e rs
  have lx : xs'.length = ds.length := (fa'.bo fun a ha => e.okO a (qO' a ha)).len
  refine ⟨q', xs', v, rfl, rfl, hp', by rw [lx, sizeLine_eq]; omega, s _ p O _ σ (wr (xs' ++ [v]) ?_)⟩
  have := fa'.app (.cons (.leaf hf bo) .nil : FoAll c H2 [v] [d] ([] ++ []))
  rw [List.append_nil, List.append_nil] at this
  exact this.up (fun _ _ s => sqT_upd hp' s) fun a ha o z => by
    have : a ≠ q' := fun w => qf' (w ▸ ha)
    rw [upd_ne this]; exact z
theorem FoAll.set0 : ∀ {v : List V} {d : List PyData} {m : Nat} {x : V} {e : PyData}, FoAll c H v d [] → flatD e = true → Bo c H x e → FoAll c H (v.set m x) (d.set m e) [] := by
  intro v
  induction v with
  | nil =>
    intro d m x e h q b
    cases h
    exact .nil
  | cons v0 v ih =>
    intro d m x e h q b
    generalize hz : ([] : List Addr) = z at h
    cases h with
    | cons a r =>
      obtain ⟨h1, h2⟩ := List.append_eq_nil_iff.mp hz.symm
      subst h1
      subst h2
      cases m with
      | zero => exact .cons (f := []) (fs := []) (.leaf q b) r
      | succ m => exact .cons (f := []) (fs := []) a (ih r q b)
/-! ### for -/
theorem s_for {wi : TI} {g : TG} {tb : TS} {items : List Im} (hi : EvI c wi Γ true items) (I : Nat → List (Option Rs) → Prop) (h0 : I 0 Γ)
    (hs : ∀ n a Γ1, items[n]? = some a → I n Γ1 → ∃ Γ2 js, EvG c g a Γ1 Γ2 js ∧
      Sd c tb Γ2 (fun o => (∃ Γ3, (o = .nx Γ3 ∨ o = .ct Γ3) ∧ I (n + 1) Γ3) ∨ (∃ Γ3, o = .bk Γ3 ∧ P (.nx Γ3)) ∨ ∃ k d, o = .rt k d ∧ P o))
    (hd : ∀ Γ1, I items.length Γ1 → P (.nx Γ1)) : Sd c (tFor wi g tb) Γ P := fun H0 O H σ D e s =>
  hi H0 O H σ e _ fun J H1 r1 w => by
    obtain ⟨jF, w⟩ := w
    have e1 := e.on r1
    refine for_it w (fun n σ' H' => ∃ O' Γ', I n Γ' ∧ Env c (mns H1 O) O' H' σ' Γ') ⟨O, Γ, h0, e1.base⟩ ?_ ?_ ?_
    · rintro n σ' H' _ ⟨O', Γ', _, e'⟩
      exact e'.rH
    · rintro n x σ' H' H'' hn ⟨O', Γ', hI, e'⟩ ⟨sm, im, him, lo⟩
      have e2 := e'.on (Rr.same sm)
      obtain ⟨Γ2, js, hg, hb⟩ := hs n im Γ' him hI
      refine hg _ _ _ _ _ true x e2 jF e2.rH (fun _ => e2.r0) lo _ fun σ2 e3 _ => hb _ _ _ _ _ e3 fun o po => ?_
      rcases po with ⟨Γ3, ho, h3⟩ | ⟨Γ3, ho, h3⟩ | ⟨k, d, ho, h3⟩
      · rcases ho with rfl | rfl
        · exact fun O4 H4 σ4 e4 => ⟨O4, Γ3, h3, e4⟩
        · exact fun O4 H4 σ4 e4 => ⟨O4, Γ3, h3, e4⟩
      · subst ho
        exact fun O4 H4 σ4 e4 => s _ h3 O4 H4 σ4 (e1.fromB e4)
      · subst ho
        intro v H4 r4 rt
        refine s _ h3 v H4 ((e.r0.tr (r1.mns e.j e.okO)).tr r4) ?_
        cases k with
        | v => exact rt
        | o =>
          obtain ⟨fp, q, nd, new⟩ := rt
          exact ⟨fp, q, nd, fun a ha => e1.back0 (new a ha)⟩
        | b => exact rt
    · rintro σ' H' ⟨O', Γ', hI, e'⟩
      exact s _ (hd Γ' hI) O' H' σ' (e1.fromB e')
theorem q_for {wi : TI} {g : TG} {tb : TS} {items : List Im} (hi : EvI c wi Γ true items) (I : Nat → List (Option Rs) → Prop) (h0 : I 0 Γ)
    (hs : ∀ n a Γ1, items[n]? = some a → I n Γ1 → ∃ Γ2 js, EvG c g a Γ1 Γ2 js ∧
      Sd c tb Γ2 (fun o => (∃ Γ3, (o = .nx Γ3 ∨ o = .ct Γ3) ∧ I (n + 1) Γ3) ∨ (∃ Γ3, o = .bk Γ3 ∧ Sd c u Γ3 P) ∨ ∃ k d, o = .rt k d ∧ P o))
    (hd : ∀ Γ1, I items.length Γ1 → Sd c u Γ1 P) : Sd c (tSeq (tFor wi g tb) u) Γ P :=
  s_seq (P1 := fun o => match o with | .nx Γ3 => Sd c u Γ3 P | .rt k d => P (.rt k d) | _ => False)
    (s_for hi I h0 (fun n a Γ1 h1 h2 => by
      obtain ⟨Γ2, js, hg, hb⟩ := hs n a Γ1 h1 h2
      refine ⟨Γ2, js, hg, hb.imp fun o po => ?_⟩
      rcases po with w | ⟨Γ3, ho, h3⟩ | ⟨k, d, ho, h3⟩
      · exact .inl w
      · exact .inr (.inl ⟨Γ3, ho, h3⟩)
      · subst ho; exact .inr (.inr ⟨k, d, rfl, h3⟩)) hd) (fun _ h => h) (fun _ _ h => h) (fun _ h => h.elim) (fun _ h => h.elim)
end

/-! ### new tuples and lists; built-ins -/
theorem newTk {xs : List V} {Q : VK} (h : ∀ p H2, H p = none → Same H H2 → TpN c.K H2 p xs → Q (.ref p) H2) : NewT H xs Q := fun p o ho hp =>
  h p _ hp (fun b u z => by rw [upd_ne (ne_of_none z hp)]; exact z) (.inl ⟨o, ho, upd_same⟩)
theorem BoAll.vm {O : List Addr} {vs : List V} (h : BoAll c (if true = true then mns H O else H) vs ds) : BoAll c (mns H O) vs ds := h
theorem new_notO (e : Env c H0 O H σ Γ) {p : Addr} (h : H p = none) : p ∉ O := fun z => by
  obtain ⟨xs, w, _⟩ := e.dm p z
  rw [h] at w; cases w
theorem tpN_mns (e : Env c H0 O H σ Γ) (r : Rr c H H2) {p : Addr} {xs : List V} (h : TpN c.K H2 p xs) : TpN c.K (mns H2 O) p xs := sqT_mns (fun b hb => (e.on r).dm b hb) h
theorem d_tup (h : EvA c tr Γ true ds) (hl : ds.length ≤ 1000000) : Ev c (tTupN tr) Γ .v (.tuple ds) := fun H0 O H σ e Q q =>
  h H0 O H σ e _ fun vs H1 r s => by
    have s' := BoAll.vm s
    refine ⟨by rw [s'.len]; exact sizeOk hl, newTk (c := c) fun p H2 hp sm tp => q _ H2 (r.tr (Rr.same sm)) ?_⟩
    have r2 : Rr c H H2 := r.tr (Rr.same sm)
    exact .tup (tpN_mns e r2 tp) (s'.mono (e.on r).j ((Rr.same sm : Rr c H1 H2).mns (e.on r).j e.okO))
theorem d_lst (h : EvA c tr Γ kv ds) (hf : flatAll ds = true) (hl : ds.length ≤ 1000000) : Ev c (tLst tr) Γ .o (.list ds) := fun H0 O H σ e Q q =>
  h H0 O H σ e _ fun vs H1 r s => by
    have s' : BoAll c H1 vs ds := by
      cases kv with
      | true => exact BoAll.same mns_same (BoAll.vm s)
      | false => exact s
    refine ⟨by rw [s'.len]; exact sizeOk hl, fun p hp => q _ _ (r.tr (Rr.same fun b u z => by rw [upd_ne (ne_of_none z hp)]; exact z)) ?_⟩
    have sm : Same H1 (upd H1 p (.lst vs)) := fun b u z => by rw [upd_ne (ne_of_none z hp)]; exact z
    exact ⟨[p], .lst upd_same (FoAll.leaves hf (s'.same sm)), by simp, fun a ha => by
      have : a = p := by simpa using ha
      rw [this]; exact r.back e.jH hp⟩
/-- a call by values -/
theorem d_cb {r : List V → Hp → VK → Prop} (h : EvA c tr Γ false ds) (hr : ∀ H O vs (Q : VK), BoAll c H vs ds → (∀ v H2, Rr c H H2 → Bo c (mns H2 O) v z → Q v H2) → r vs H Q) : Ev c (tCB r tr) Γ .v z := fun H0 O H σ e Q q =>
  h H0 O H σ e _ fun vs H1 r1 s => hr H1 O vs Q s fun v H2 r2 b => q v H2 (r1.tr r2) b
theorem BoAll.one {v : List V} (h : BoAll c H v [d]) : ∃ x, v = [x] ∧ Bo c H x d := by
  cases h with
  | cons a b => cases b; exact ⟨_, rfl, a⟩
theorem BoAll.two {v : List V} (h : BoAll c H v [d, x]) : ∃ y z, v = [y, z] ∧ Bo c H y d ∧ Bo c H z x := by
  cases h with
  | cons a b =>
    cases b with
    | cons a' b => cases b; exact ⟨_, _, rfl, a, a'⟩
def rLen (K : PySem.W.Frag) : List V → Hp → VK → Prop := fun xs H Q => ∃ p ys, xs = [.ref p] ∧ (SqL K H p ys ∨ SqT K H p ys) ∧ Q (.int ys.length) H
theorem d_lenT (h : Ev c te Γ k (.tuple ds)) : Ev c (tCB (rLen c.K) (tCons te tNil)) Γ .v (.int ds.length) :=
  d_cb (a_cons h a_nil) fun H O vs Q s q => by
    obtain ⟨x, rfl, b⟩ := s.one
    obtain ⟨p, xs, rfl, s, al⟩ := b.tup'
    exact ⟨p, xs, rfl, .inr s.sq, by rw [al.len]; exact q _ H Rr.rf (.int _)⟩
theorem d_lenL (h : Ev c te Γ k (.list ds)) : Ev c (tCB (rLen c.K) (tCons te tNil)) Γ .v (.int ds.length) :=
  d_cb (a_cons h a_nil) fun H O vs Q s q => by
    obtain ⟨x, rfl, b⟩ := s.one
    obtain ⟨p, xs, rfl, _, s, al⟩ := b.lst'
    exact ⟨p, xs, rfl, .inl s, by rw [al.len]; exact q _ H Rr.rf (.int _)⟩
theorem d_all {bs : List Bool} (h : Ev c te Γ k (.list (bs.map .bool))) : Ev c (tCB (rAll c.K) (tCons te tNil)) Γ .v (.bool (bs.all id)) :=
  d_cb (a_cons h a_nil) fun H O vs Q s q => by
    obtain ⟨x, rfl, b⟩ := s.one
    obtain ⟨p, xs, rfl, _, s, al⟩ := b.lst'
    have := al.bools
    subst this
    exact ⟨p, bs, rfl, s, q _ H Rr.rf (.bl _)⟩
theorem n_tuple {P : List PyData → Prop} (h : EvN c te Γ k (fun d => ∃ ds, d = .list ds ∧ P ds)) (hf : ∀ ds, P ds → flatAll ds = true) : EvN c (tCB (rTuple c.K) (tCons te tNil)) Γ .v (fun d => ∃ ds, d = .tuple ds ∧ P ds) := fun H0 O H σ e Q q =>
  h H0 O H σ e _ fun v d H1 ⟨ds, hd, pd⟩ r s => by
    subst hd
    obtain ⟨p, xs, rfl, _, sl, al⟩ := (Res.bo e s).lst'
    refine ⟨p, xs, rfl, .inl ⟨sl, newTk (c := c) fun p' H2 hp sm tp => q _ (.tuple ds) H2 ⟨ds, rfl, pd⟩ (r.tr (Rr.same sm)) ?_⟩⟩
    have r2 : Rr c H H2 := r.tr (Rr.same sm)
    exact .tup (tpN_mns e r2 tp) ((al.same sm).flatTo (fun a xs s => sqT_mns (fun b hb => (e.on r2).dm b hb) s) (hf ds pd))
theorem d_tuple (h : Ev c te Γ k (.list ds)) (hf : flatAll ds = true) : Ev c (tCB (rTuple c.K) (tCons te tNil)) Γ .v (.tuple ds) :=
  ((n_tuple (P := fun es => es = ds) (h.n.imp fun d hd => ⟨ds, hd, rfl⟩) fun es he => he ▸ hf).imp fun d ⟨es, h1, h2⟩ => by rw [h1, h2]).det
end Lm


namespace Lm
open PySem PySem.Spec PyProof.Rows L2
variable {c : Ct} {H H' H0 H1 H2 H3 : Hp} {O : List Addr} {σ : L2.St} {Γ Γ' Γ1 : List (Option Rs)}
variable {te ta tb tx tl : TE} {tt tu : TT} {tr : TA} {k ka kb : Kd} {d x y z : PyData} {i j : Int} {a b : Bool} {kv fz : Bool} {ds es : List PyData}

/-! ### promises of defs over data -/
abbrev pc (K : PySem.W.Frag) : Ct := ⟨K, none⟩
/-- args, how the answer is held, the answer -/
abbrev Pre := List PyData → Kd → PyData → Prop
def spD (K : PySem.W.Frag) (pre : Pre) : Sp := fun vs H Q _ => ∃ ds k d, BoAll (pc K) H vs ds ∧ pre ds k d ∧ ∀ v H', Same H H' → Rt (pc K) H H' v d k → Q v H'
/-- with the stream first: one of several answers -/
abbrev PreS := List PyData → Kd → (PyData → Prop) → Prop
abbrev sc (K : PySem.W.Frag) (st l : Addr) : Ct := ⟨K, some (st, l)⟩
def spS (K : PySem.W.Frag) (pre : PreS) : Sp := fun vs H Q _ => ∃ st l vs' ds k P, vs = .ref st :: vs' ∧ Str1 K st l H ∧ BoAll (sc K st l) H vs' ds ∧ pre ds k P ∧ ∀ v d H', P d → Rr (sc K st l) H H' → Rt (sc K st l) H H' v d k → Q v H'
mutual
theorem Fo.ct {c' : Ct} (hk : c'.K = c.K) : ∀ {v : V} {d : PyData} {fp : List Addr}, Fo c H v d fp → Fo c' H v d fp
  | _, _, _, .leaf q b => .leaf q (b.flat hk q)
  | _, _, _, .lst e a => .lst e (FoAll.ct hk a)
theorem FoAll.ct {c' : Ct} (hk : c'.K = c.K) : ∀ {v : List V} {d : List PyData} {fp : List Addr}, FoAll c H v d fp → FoAll c' H v d fp
  | _, _, _, .nil => .nil
  | _, _, _, .cons a b => .cons (Fo.ct hk a) (FoAll.ct hk b)
end
theorem Rt.res {v : V} (e : Env c H0 O H σ Γ) (r : Rr c H H2) (h : Rt c H H2 v d k) : Res c O H H2 v d k := by
  cases k with
  | v => exact Bo.flatM e r h.1 h.2
  | o => exact h
  | b => exact h.2
theorem d_call {pre : Pre} {E : XK} (h : EvA c tr Γ false ds) (hp : pre ds k d) : Ev c (tCall (spD c.K pre) [] E tr) Γ k d := fun H0 O H σ e Q q =>
  h H0 O H σ e _ fun vs H1 r s => by
    refine ⟨ds, k, d, by rw [List.append_nil]; exact s.pure, hp, fun v H2 sm rt => q v H2 (r.tr (Rr.same sm)) ?_⟩
    have r2 : Rr c H H2 := r.tr (Rr.same sm)
    cases k with
    | v => exact (Bo.flat (c := pc c.K) (c' := c) rfl rt.1 rt.2).flatM e r2 rt.1
    | o =>
      obtain ⟨fp, f, nd, new⟩ := rt
      exact ⟨fp, Fo.ct (c := pc c.K) (c' := c) rfl f, nd, fun a ha => r.back e.jH (new a ha)⟩
    | b => obtain ⟨⟨_, e⟩, _⟩ := rt; exact nomatch e
theorem n_call {pre : PreS} {E : XK} {st l : Addr} {P : PyData → Prop} {n : Nat} (hc : c.so = some (st, l)) (hst : Γ[n]? = some (some (.r (.ref st)))) (h : EvA c tr Γ false ds) (hp : pre ds k P) :
    EvN c (tCall (spS c.K pre) [] E (tCons (tVar n) tr)) Γ k P := fun H0 O H σ e Q q => by
  have hcc : c = sc c.K st l := by cases c; cases hc; rfl
  refine ⟨_, e.slotR hst, h H0 O H σ e _ fun vs H1 r s => ?_⟩
  refine ⟨st, l, vs, ds, k, P, by simp, (e.on r).jH st l hc, by rw [← hcc]; exact s, hp, fun v d H2 pd r2 rt => ?_⟩
  rw [← hcc] at r2 rt
  refine q v d H2 pd (r.tr r2) ?_
  exact (Rt.res (e.on r) r2 rt).back e r
/-! ### a def's body -/
def argsG (ds : List PyData) (n : Nat) : List (Option Rs) := ds.map (fun d => some (.v d)) ++ List.replicate (n - ds.length) none
theorem reps_none {O : List Addr} : ∀ n : Nat, Reps c O H (List.replicate n none) (List.replicate n none) []
  | 0 => .nil
  | n + 1 => .cons (f := []) (fs := []) rfl (reps_none n)
theorem reps_args {O : List Addr} {rest : L2.St} {restG : List (Option Rs)} (hr : Reps c O H rest restG []) : ∀ {vs : List V} {ds : List PyData}, BoAll c (mns H O) vs ds → Reps c O H (vs.map some ++ rest) (ds.map (fun d => some (.v d)) ++ restG) []
  | _, _, .nil => hr
  | _, _, .cons a b => .cons (f := []) (fs := []) ⟨rfl, _, rfl, a⟩ (reps_args hr b)
theorem env_args {N : List Str} {vs : List V} (j : Ji c H) (h : BoAll c H vs ds) : Env c H [] H (start N vs) (argsG ds N.length) := by
  refine ⟨Rr.same (by rw [mns_nil]; exact Same.refl _), by rw [mns_nil]; exact j, (fun _ h => nomatch h), (fun _ h => nomatch h), [], ?_, List.nodup_nil, (fun _ h => nomatch h)⟩
  unfold L2.start argsG
  rw [h.len]
  exact reps_args (reps_none _) (by rw [mns_nil]; exact h)
theorem Ji.pc {K : PySem.W.Frag} {H : Hp} : Ji (pc K) H := fun _ _ e => nomatch e
/-- the body of a def without the stream -/
theorem run_pure {K : PySem.W.Frag} {N : List Str} {t : TS} {pre : Pre} {vs : List V} {Q : VK} {E : XK} (hs : ∀ ds k d, pre ds k d → Sd (pc K) t (argsG ds N.length) (fun o => o = .rt k d ∨ (k = .v ∧ d = .none ∧ ∃ Γ, o = .nx Γ)))
    (h : spD K pre vs H Q E) : t { nx := fun _ H' => Q .non H', rt := Q } (start N vs) H := by
  obtain ⟨ds, k, d, hb, hp, hq⟩ := h
  have sm : ∀ H', Rr (Lm.pc K) H H' → Same H H' := fun H' r a o z => r.1 a o (fun _ _ e => nomatch e) z
  refine hs ds k d hp H [] H (start N vs) _ (env_args Ji.pc hb) fun o po => ?_
  rcases po with rfl | ⟨rfl, rfl, Γ, rfl⟩
  · exact fun v H' r rt => hq v H' (sm H' r) rt
  · intro O H' σ e
    exact hq .non H' (sm H' (e.r0.tr (Rr.same mns_same))) ⟨rfl, .non⟩
theorem spD_len {K : PySem.W.Frag} {pre : Pre} {vs : List V} {Q : VK} {E : XK} {n : Nat} (h : spD K pre vs H Q E) (hl : ∀ ds k d, pre ds k d → ds.length = n) : vs.length = n := by
  obtain ⟨ds, k, d, hb, hp, _⟩ := h
  rw [hb.len, hl ds k d hp]
/-- the body of a def with the stream first -/
theorem run_str {K : PySem.W.Frag} {N : List Str} {t : TS} {pre : PreS} {vs : List V} {Q : VK} {E : XK}
    (hs : ∀ st l ds k P, pre ds k P → Sd (sc K st l) t (some (.r (.ref st)) :: (ds.map (fun d => some (.v d)) ++ List.replicate (N.length - (ds.length + 1)) none)) (fun o => ∃ d, o = .rt k d ∧ P d))
    (h : spS K pre vs H Q E) : t { nx := fun _ H' => Q .non H', rt := Q } (start N vs) H := by
  obtain ⟨st, l, vs', ds, k, P, rfl, hst, hb, hp, hq⟩ := h
  have j : Ji (sc K st l) H := fun st' l' e => by cases e; exact hst
  refine hs st l ds k P hp H [] H (start N (.ref st :: vs')) _ ⟨Rr.same (by rw [mns_nil]; exact Same.refl _), by rw [mns_nil]; exact j, (fun _ h => nomatch h), (fun _ h => nomatch h), [], ?_, List.nodup_nil, (fun _ h => nomatch h)⟩ fun o po => ?_
  · unfold L2.start
    have : (V.ref st :: vs').length = ds.length + 1 := by simp [hb.len]
    rw [this]
    exact .cons (f := []) (fs := []) ⟨rfl, rfl⟩ (reps_args (reps_none _) (by rw [mns_nil]; exact hb))
  · obtain ⟨d, rfl, pd⟩ := po
    exact fun v H' r rt => hq v d H' pd r rt
theorem spS_len {K : PySem.W.Frag} {pre : PreS} {vs : List V} {Q : VK} {E : XK} {n : Nat} (h : spS K pre vs H Q E) (hl : ∀ ds k P, pre ds k P → ds.length + 1 = n) : vs.length = n := by
  obtain ⟨st, l, vs', ds, k, P, rfl, _, hb, hp, _⟩ := h
  simp [hb.len, hl ds k P hp]
/-- what a caller knows of a def: where it stands, what it promises -/
structure Cal (P : Program) (w : World) (K : PySem.W.Frag) (mg : Str → Option Value) (base : Heap) (CX : CXT) (k : Nat) (x : Str) (ps : List Str) (sp : Sp) : Prop where
  ok : ∃ f fd, FnOk P w K mg base CX k f fd ps sp ∧ mg x = some (.ref f) ∧ PySem.W.keepIn K (.ref f) = true ∧ Binds K fd ps []
section
variable {X : Cx}
theorem pe_cal {CX : CXT} {E : XK} {k : Nat} {x : Str} {ps : List Str} {sp : Sp} {p pos : Pos} {e : Expr} {es : List Expr} {t : TA} (F : Cal X.prog X.w X.K X.mg X.base CX k x ps sp) (hr : Room k X.A) (hg : Gl X x) (hx : Passes CX X E) (ha : PA X (e :: es) t)
    (hdb : (x == ("__debug__" : Str)) = false := by decide) (he : starEach (e :: es) X.env = (false, eval e X.env) :: starEach es X.env := by rfl) (hpl : (backTo pos (starEach es X.env)).any (·.1) = false := by rfl) :
    PE X (.Call (.Name x p) (e :: es) [] pos) (tCall sp [] E t) := by
  obtain ⟨f, fd, F1, F2, F3, F4⟩ := F.ok
  exact pe_call F1 hr hg F2 F3 F4 .nil hx ha hdb he hpl
end
/-! ### methods of tuples -/
end Lm


namespace Lm
open PySem PySem.Spec PyProof.Rows L2
/-! ### enumerate(tuple) -/
/-- the turns of enumerate over the tuple at a: its items as they stand, each in a pair -/
def IteT (K : PySem.W.Frag) (a : Addr) : It where
  go := fun i H => ∃ (xs : List V) (x : V), SqT K H a xs ∧ xs[i]? = some x
  yld := fun i H v H' => ∃ T x, v = .ref T ∧ H T = none ∧ H' = upd H T (.tup [.int (i : Nat), x]) ∧ ∀ xs, SqT K H a xs → xs[i]? = some x
  stop := fun i H => ∃ xs : List V, SqT K H a xs ∧ xs.length = i
theorem turnEnumT {P : Program} {w : World} {K : PySem.W.Frag} {elts : List Expr} {kk : Nat} {tpos : Pos} (a e it : Addr) :
    Turn P w K (.Tuple elts kk tpos) (IteT K a) [e, it] e fun i h => (∃ old, IsEnum h e it ((i : Nat) : Int) old) ∧ h.IsTupleIter it a i ∧ e ≠ it ∧ a ≠ it where
  mem := List.mem_cons_self
  obj := by
    rintro i h ⟨⟨old, he⟩, ⟨o, ho, hc, hd⟩, _⟩ b hb
    rcases List.mem_cons.mp hb with rfl | hb
    · exact ⟨_, he, fun v q => nomatch q⟩
    · cases List.mem_singleton.mp hb
      exact ⟨o, ho, fun v q => by rw [hd] at q; cases q⟩
  keep := by
    rintro i h h' ⟨⟨old, he⟩, hi, hne⟩ k
    exact ⟨⟨old, k e List.mem_cons_self _ he⟩, hi.at fun o q => k it (List.mem_cons_of_mem _ List.mem_cons_self) o q, hne⟩
  item := by
    intro X hP hw hK hc i pins s σ H E I hf ⟨⟨old, he⟩, hit, hne, hai⟩ ⟨xs, x, hq, hx⟩
    subst hP hw hK
    obtain ⟨its, rv, p, hz⟩ := I.tuple hq
    obtain ⟨u, hu, ru⟩ := rv.get hx
    have hlt : i < its.toArray.size := by rw [List.size_toArray]; exact (List.getElem?_eq_some_iff.mp hu).1
    have hel := Heap.lt_size he
    have hil : it < s.heap.objs.size := let ⟨_, q, _⟩ := hit; Heap.lt_size q
    have hea : e ≠ a := fun z => by
      have h0 := (hf e List.mem_cons_self).1
      obtain ⟨ob, g, gc, n, gd⟩ := p
      rw [← z, he] at g
      cases g
      exact absurd gc (by simp)
    have DT := Draws.tuple (prog := X.prog) (w := X.w) (A := X.A.in1) (show X.A.in1.handled = none from I.ok.hd hc) it a hai its.toArray
    refine PySem.wpAny_pyNext_enum_itemD DT he ⟨hit, p⟩ hlt hne (by simpa [hne] using hea) fun x' h' tk hx' ho hs' hT hsz hk => ?_
    have ex : x' = u := by
      have : its[i]? = some x' := by simpa using hx'
      rw [hu] at this
      exact (Option.some.inj this).symm
    subst ex
    refine ⟨_, rfl, wpAny_letOwnedTupleGo_enum (s := { s with heap := h', toks := tk + 1 }) ho fun h'' he' sb => ?_⟩
    have hT2 := (sb.2 _ (Nat.ne_of_gt hel)).trans hT
    have new : ObjOk X.prog X.w (upd H s.heap.objs.size (.tup [.int (i : Nat), x])) h'' s.heap.objs.size (.tup [.int (i : Nat), x]) :=
      ⟨(by decide : 2 ≤ sizeLine), [.int i tk, x'], .cons ⟨_, rfl⟩ (.cons ru .nil), _, hT2, rfl, _, rfl⟩
    have I1 := I.turnedNew (t' := tk + 1) (ch := [e, it]) (fun b ob hb q => (sb.2 b fun z => hb (z ▸ List.mem_cons_self)).trans (hk b ob (fun z => hb (z ▸ List.mem_cons_self)) (fun z => hb (z ▸ List.mem_cons_of_mem _ List.mem_cons_self)) q)) hf (Nat.le_refl _) new
    refine ⟨.ref s.heap.objs.size, _, I1, rfl, ⟨_, x, rfl, I.hok.fresh (Nat.le_refl _), rfl, fun ys hy => by rw [I.tuple_inj hy hq]; exact hx⟩, ⟨⟨x', ?_⟩, hs'.1.at fun o q => (sb.2 it hne.symm).trans q, hne, hai⟩, fun b hb => ?_⟩
    · have e1 : ((i + 1 : Nat) : Int) = (i : Int) + 1 := by omega
      rw [e1]; exact he'
    · have hb' : b < s.heap.objs.size := by
        rcases List.mem_cons.mp hb with rfl | hb
        · exact hel
        · cases List.mem_singleton.mp hb; exact hil
      rw [upd_ne (Nat.ne_of_lt hb')]
      exact (hf b hb).1
  done := by
    intro X hP hw hK hc i pins s σ H E I hf ⟨⟨old, he⟩, hit, hne, hai⟩ ⟨xs, hq, hx⟩
    subst hP hw hK
    obtain ⟨its, rv, p, hz⟩ := I.tuple hq
    obtain ⟨f0, f1, f2, f3, f4, f5⟩ := hf it (List.mem_cons_of_mem _ List.mem_cons_self)
    have hl : its.toArray.size = i := by rw [List.size_toArray, ← rv.length]; exact hx
    have DT := Draws.tuple (prog := X.prog) (w := X.w) (A := X.A.in1) (show X.A.in1.handled = none from I.ok.hd hc) it a hai its.toArray
    rw [hl] at DT
    exact PySem.wpAny_pyNext_enum_endD DT he ⟨hit, p⟩
      fun h' eb => ⟨rfl, I.turned (t' := s.toks) (fun b o hb q => eb b o hb q) f0 f1 f3 f4 f5⟩
  self := fun A i s Q E ⟨⟨_, he⟩, _⟩ h => wpAny_pyIter_enum he h
theorem meetsEnumT {l : Addr} {items : Array Value} :
    Meets (Builtin.«enumerate.__new__» ⟨[.type "enumerate", .ref l], []⟩) fun _ R s => s.heap.IsTuple l items ∧
      R (.ok (.ret (.ref (s.heap.push { cls := .type "tuple_iterator", data := .fields #[.ref l, .int 0 0] }).objs.size)))
        { s with heap := (s.heap.push { cls := .type "tuple_iterator", data := .fields #[.ref l, .int 0 0] }).push { cls := .type "enumerate", data := .fields #[.none, .bool false, .ref s.heap.objs.size, rawInt 0, .none, .none] } } :=
  .of_wp fun prog w A R s h => by
    obtain ⟨hp, g, d, tk, os⟩ := s
    obtain ⟨hl, h⟩ := h
    have q1 : ∀ {A' : Around} {E Q : Value → Shared → Prop}, Q (.ref hp.objs.size) ⟨hp.push { cls := .type "tuple_iterator", data := .fields #[.ref l, .int 0 0] }, g, d, tk, os⟩ → wpAny (model prog w) A' (pyIter (.ref l)) Q E ⟨hp, g, d, tk, os⟩ := fun q => wpAny_pyIter_tuple hl q
    have hsub := sub_enumerate
    wp_walk using q1
    refine wpAny_stack_any fun st => wpAny_pure ?_
    split
    · rename_i c _ _ _ _ _
      cases (c == Value.type "enumerate") <;> (wp_walk using q1; exact ⟨_, rfl, h⟩)
    · wp_walk using q1
      exact ⟨_, rfl, h⟩
theorem callEnumT {prog : Program} {w : World} {A : Around} {E : Value → Shared → Prop} {s : Shared} {l : Addr} {items : Array Value} {Q : Value → Shared → Prop} (hL : s.heap.IsTuple l items)
    (h : ∀ h', IsEnum h' (s.heap.objs.size + 1) s.heap.objs.size 0 .none → h'.IsTupleIter s.heap.objs.size l 0 → (∀ b o, s.heap.get? b = some o → h'.get? b = some o) → Q (.ref (s.heap.objs.size + 1)) { s with heap := h' }) :
    wpAny (model prog w) A (call (.type "enumerate") [.ref l]) Q E s := by
  refine callType_new F.called_enumerate (by decide) (F.typeCall_enumerate_1 _) (F.newCall_enumerate_1 _) (fun obj => F.args_object_init_2 obj _) F.entry_enumerate_new meetsEnumT ⟨hL, ?_⟩
  generalize hto : ({ cls := .type "tuple_iterator", data := .fields #[.ref l, .int 0 0] } : Obj) = to
  have hz : (s.heap.push to).objs.size = s.heap.objs.size + 1 := Heap.size_push ..
  show _ ∧ _
  rw [hz]
  have he : IsEnum ((s.heap.push to).push { cls := .type "enumerate", data := .fields #[.none, .bool false, .ref s.heap.objs.size, rawInt 0, .none, .none] }) (s.heap.objs.size + 1) s.heap.objs.size 0 .none := by
    have := Heap.get?_push_size (s.heap.push to) (o := { cls := .type "enumerate", data := .fields #[.none, .bool false, .ref s.heap.objs.size, rawInt 0, .none, .none] }) rfl
    rw [hz] at this
    exact this
  have hfree : to.isFreed = false := by rw [← hto]; rfl
  refine ⟨⟨_, he, rfl⟩, h _ he ?_ fun b o x => Heap.get?_push_of_some _ (Heap.get?_push_of_some _ x)⟩
  exact ⟨to, Heap.get?_push_of_some _ (Heap.get?_push_size _ hfree), by rw [← hto], by rw [← hto]; rfl⟩
def iEnumA (K : PySem.W.Frag) (ta : TA) : TI := fun σ H R => ta σ H fun vs H1 => ∃ a xs, vs = [.ref a] ∧ ((SqL K H1 a xs ∧ R (Ite K a) H1) ∨ (SqT K H1 a xs ∧ R (IteT K a) H1))
theorem pi_enumA {X : Cx} {e : Expr} {ta : TA} {p pos tpos : Pos} {elts : List Expr} {kk : Nat} (hg : Gl X "enumerate") (hm : X.mg "enumerate" = none) (ha : PA X [e] ta) (hs : starEach [e] X.env = [(false, eval e X.env)] := by rfl) :
    PI X (.Tuple elts kk tpos) (.Call (.Name "enumerate" p) [e] [] pos) (iEnumA X.K ta) := by
  refine ⟨fun pins s σ H R I h => Call_ (ld_blt I hg hm boot_enumerate (PyProof.Rows.callWith_type1 (thn (ha.run pos pins s σ H _ I h) fun us s1 ⟨vs, H1, I1, r1, q1⟩ => ?_) hs rfl))⟩
  obtain ⟨a, xs, rfl, q⟩ := q1
  obtain ⟨u, rfl, ru⟩ := vals1 r1
  cases ru
  have fresh2 : ∀ b ∈ [s1.heap.objs.size + 1, s1.heap.objs.size], FpOk X pins H1 b := fun b hb => by
    have hle : s1.heap.objs.size ≤ b := by
      rcases List.mem_cons.mp hb with rfl | hb
      · exact Nat.le_succ _
      · cases List.mem_singleton.mp hb; exact Nat.le_refl _
    exact I1.fpOk hle (I1.hok.fresh hle)
  rcases q with ⟨hq, q⟩ | ⟨hq, q⟩
  · obtain ⟨its, rv, p', hz⟩ := I1.list hq
    refine call_enumerate_list p'.isList fun h' he hit hsz hk => wpAny_pyIter_enum he ?_
    exact ⟨_, _, _, _, H1, rfl, I1.kept (t' := s1.toks) hk, turn_enum a (s1.heap.objs.size + 1) s1.heap.objs.size, ⟨⟨.none, he⟩, hit, Nat.succ_ne_self _⟩, fresh2, q⟩
  · obtain ⟨its, rv, p', hz⟩ := I1.tuple hq
    have ha : a < s1.heap.objs.size := let ⟨_, g, _⟩ := p'; Heap.lt_size g
    refine callEnumT p' fun h' he hit hk => wpAny_pyIter_enum he ?_
    exact ⟨_, _, _, _, H1, rfl, I1.kept (t' := s1.toks) hk, turnEnumT a (s1.heap.objs.size + 1) s1.heap.objs.size, ⟨⟨.none, he⟩, hit, Nat.succ_ne_self _, Nat.ne_of_lt ha⟩, fresh2, q⟩
end Lm


namespace Lm
open PySem PySem.Spec PyProof.Rows L2
section
variable {X : Cx}
/-! ### rules that serve several kinds of values: the derivation need not know which -/
def rAddA (K : PySem.W.Frag) : R2 := fun x y H Q => rI0 (fun i j => .int (i + j)) x y H Q ∨ rCatN K x y H Q ∨ rCat x y H Q
theorem op_addA : OpR X (binaryOp .Add) (rAddA X.K) := op_add.or (op_catN.or op_cat)
def rMulA : R2 := fun x y H Q => rI CMul (fun i j => .int (i * j)) x y H Q ∨ rRep x y H Q
theorem op_mulA : OpR X (binaryOp .Mult) rMulA := op_mul.or op_rep
def rEqA (K : PySem.W.Frag) : R2 := fun x y H Q => rEq x y H Q ∨ rEqD K x y H Q
theorem op_eqA (hu : X.A.units + 64 < cLine) : OpR X (compareOp .Eq) (rEqA X.K) := op_eq.or (op_eqD hu)
def rNeA (K : PySem.W.Frag) : R2 := fun x y H Q => rNe x y H Q ∨ rNeD K x y H Q
theorem op_neA (hu : X.A.units + 64 < cLine) : OpR X (compareOp .NotEq) (rNeA X.K) := op_ne.or (op_neD hu)
def iSeq (K : PySem.W.Frag) (tl : TE) : TI := fun σ H R => iList K tl σ H R ∨ iTup K tl σ H R
theorem pi_seq {e tg : Expr} {tl : TE} (h : PE X e tl) : PI X tg e (iSeq X.K tl) := by
  refine ⟨fun pins s σ H R I q => ?_⟩
  rcases q with q | q
  · exact (pi_list h).run pins s σ H R I q
  · exact (pi_tup h).run pins s σ H R I q
def rUnits {k : Nat} {A : Around} (hr : Room k A) : A.units + 64 < cLine := by have := hr.un; omega
end
variable {c : Ct} {H H' H0 H1 H2 H3 : Hp} {O : List Addr} {σ : L2.St} {Γ Γ' Γ1 : List (Option Rs)}
variable {te ta tb tx tl : TE} {tt tu : TT} {tr : TA} {k ka kb kc : Kd} {d x y z : PyData} {i j : Int} {a b : Bool} {kv fz : Bool} {ds es : List PyData}
theorem e_add (ha : Ev c ta Γ ka (.int i)) (hb : Ev c tb Γ kb (.int j)) : Ev c (tOp (rAddA c.K) ta tb) Γ .v (.int (i + j)) :=
  d_bin ha hb fun H O v u Q bv bu q => .inl ⟨i, j, bv.int', bu.int', q _ H Rr.rf (.int _)⟩
theorem e_mul (ha : Ev c ta Γ ka (.int i)) (hb : Ev c tb Γ kb (.int j)) (h : CMul i j) : Ev c (tOp rMulA ta tb) Γ .v (.int (i * j)) :=
  d_bin ha hb fun H O v u Q bv bu q => .inl ⟨i, j, bv.int', bu.int', h, q _ H Rr.rf (.int _)⟩
theorem e_eqI (ha : Ev c ta Γ ka (.int i)) (hb : Ev c tb Γ kb (.int j)) : Ev c (tOp (rEqA c.K) ta tb) Γ .v (.bool (decide (i = j))) :=
  d_bin ha hb fun H O v u Q bv bu q => .inl ⟨by rw [bv.int', bu.int']; rfl, by rw [bv.int', bu.int', decI]; exact q _ H Rr.rf (.bl _)⟩
theorem e_neI (ha : Ev c ta Γ ka (.int i)) (hb : Ev c tb Γ kb (.int j)) : Ev c (tOp (rNeA c.K) ta tb) Γ .v (.bool (!decide (i = j))) :=
  d_bin ha hb fun H O v u Q bv bu q => .inl ⟨by rw [bv.int', bu.int']; rfl, by rw [bv.int', bu.int', decI]; exact q _ H Rr.rf (.bl _)⟩
theorem e_eqS {v w : V} (ha : Ev c ta Γ ka x) (hb : Ev c tb Γ kb y) (hx : scalD x = some v) (hy : scalD y = some w) (hs : scal v w = true) (hz : decide (v = w) = a) : Ev c (tOp (rEqA c.K) ta tb) Γ .v (.bool a) :=
  d_bin ha hb fun H O v' u' Q bv bu q => .inl ⟨by rw [bv.scal hx, bu.scal hy]; exact hs, by rw [bv.scal hx, bu.scal hy, hz]; exact q _ H Rr.rf (.bl _)⟩
theorem e_eqD (ha : Ev c ta Γ ka x) (hb : Ev c tb Γ kb y) (hx : SeqAt.shaped x = true) (hy : SeqAt.shaped y = true) : Ev c (tOp (rEqA c.K) ta tb) Γ .v (.bool (PyData.eqv x y)) :=
  d_bin ha hb fun H O v u Q bv bu q => .inr ⟨x, y, bv.dp, bu.dp, hx, hy, q _ H Rr.rf (.bl _)⟩
theorem e_ixT (ha : Ev c ta Γ ka (.tuple ds)) (hb : Ev c tb Γ kb (.int i)) (he : atI ds i = some d) (hf : flatD d = true) : Ev c (tOp (rIx c.K) ta tb) Γ .v d := fun H0 O H σ e Q q =>
  ha H0 O H σ e _ fun v H1 r1 s1 => hb H0 O H1 σ (e.on r1) _ fun u H2 r2 s2 => by
    obtain ⟨p, xs, rfl, s, al⟩ := (Res.bo e (Res.on e r1 r2 s1)).tup'
    obtain ⟨x, hx, bx⟩ := atI_bo al he
    exact .inr (.inl ⟨p, xs, i, x, rfl, (Res.bo (e.on r1) s2).int', s.sq, hx, q x H2 (r1.tr r2) (Bo.flatM e (r1.tr r2) hf bx)⟩)
theorem e_ixL (ha : Ev c ta Γ ka (.list ds)) (hb : Ev c tb Γ kb (.int i)) (he : atI ds i = some d) (hf : flatD d = true) : Ev c (tOp (rIx c.K) ta tb) Γ .v d := fun H0 O H σ e Q q =>
  ha H0 O H σ e _ fun v H1 r1 s1 => hb H0 O H1 σ (e.on r1) _ fun u H2 r2 s2 => by
    obtain ⟨p, xs, rfl, _, s, al⟩ := (Res.bo e (Res.on e r1 r2 s1)).lst'
    obtain ⟨x, hx, bx⟩ := atI_bo al he
    exact .inl ⟨p, xs, i, x, rfl, (Res.bo (e.on r1) s2).int', s, hx, q x H2 (r1.tr r2) (Bo.flatM e (r1.tr r2) hf bx)⟩
/-- an item of a frozen tuple, whatever it is -/
theorem e_ixTv (ha : Ev c ta Γ .v (.tuple ds)) (hb : Ev c tb Γ kb (.int i)) (he : atI ds i = some d) : Ev c (tOp (rIx c.K) ta tb) Γ .v d := fun H0 O H σ e Q q =>
  ha H0 O H σ e _ fun v H1 r1 s1 => hb H0 O H1 σ (e.on r1) _ fun u H2 r2 s2 => by
    obtain ⟨p, xs, rfl, s, al⟩ := Bo.tup' (Res.on e r1 r2 s1)
    obtain ⟨x, hx, bx⟩ := atI_bo al he
    exact .inr (.inl ⟨p, xs, i, x, rfl, (Res.bo (e.on r1) s2).int', (sqT_same mns_same s).sq, hx, q x H2 (r1.tr r2) bx⟩)
theorem e_ixLv (ha : Ev c ta Γ .v (.list ds)) (hb : Ev c tb Γ kb (.int i)) (he : atI ds i = some d) : Ev c (tOp (rIx c.K) ta tb) Γ .v d := fun H0 O H σ e Q q =>
  ha H0 O H σ e _ fun v H1 r1 s1 => hb H0 O H1 σ (e.on r1) _ fun u H2 r2 s2 => by
    obtain ⟨p, xs, rfl, _, s, al⟩ := Bo.lst' (Res.on e r1 r2 s1)
    obtain ⟨x, hx, bx⟩ := atI_bo al he
    exact .inl ⟨p, xs, i, x, rfl, (Res.bo (e.on r1) s2).int', mns_same.seq s, hx, q x H2 (r1.tr r2) bx⟩
/-- a < b < c of ints -/
theorem d_chain {f g : Int → Int → Bool} {l : Int} (ha : Ev c ta Γ ka (.int i)) (hb : Ev c tb Γ kb (.int j)) (hc : f i j = true → Ev c tx Γ kc (.int l)) :
    Ev c (tChain (rI0 fun i j => .bl (f i j)) (rI0 fun i j => .bl (g i j)) ta tb tx) Γ .v (.bool (f i j && g j l)) := fun H0 O H σ e Q q =>
  ha H0 O H σ e _ fun v H1 r1 s1 => hb H0 O H1 σ (e.on r1) _ fun u H2 r2 s2 => by
    refine ⟨i, j, (Res.bo e s1).int', (Res.bo (e.on r1) s2).int', f i j, rfl, ?_⟩
    cases hf : f i j with
    | true =>
      refine iteT (hc hf H0 O H2 σ ((e.on r1).on r2) _ fun w H3 r3 s3 => ?_)
      exact ⟨j, l, (Res.bo (e.on r1) s2).int', (Res.bo ((e.on r1).on r2) s3).int', by
        have := q (.bl (g j l)) H3 ((r1.tr r2).tr r3)
        rw [hf, Bool.true_and] at this
        exact this (.bl _)⟩
    | false =>
      refine iteF ?_
      have := q (.bl false) H2 (r1.tr r2)
      rw [hf, Bool.false_and] at this
      exact this (.bl _)
/-! ### isinstance -/
def tyD : PyData → String
  | .none => "NoneType"
  | .bool _ => "bool"
  | .int _ => "int"
  | .str _ => "str"
  | .list _ => "list"
  | .tuple _ => "tuple"
  | .dict _ => "dict"
theorem Bo.ty {v : V} (h : Bo c H v d) : TyX c.K H v (.type (tyD d)) := by
  cases h with
  | non => exact .base .non
  | bl b => exact .base (.bl b)
  | int i => exact .base (.int i)
  | str x => exact .base (.str x)
  | lst _ s a =>
    rcases s with (s | ⟨o, s⟩) | ⟨o, its, n, h1, h2, _⟩
    · exact .base (.lst s)
    · exact .base (.frz s)
    · exact .kList h1 h2
  | tup s a =>
    rcases s with ⟨o, _, s⟩ | ⟨o, its, n, h1, h2, _⟩
    · exact .fTuple s
    · exact .kTuple h1 h2
theorem e_isi {n : String} (h : Ev c te Γ k d) (e : kitB (tyD d) n = some b) : Ev c (tCB (rIsi c.K) (tCons te (tCons (tC (.ty n)) tNil))) Γ .v (.bool b) := fun H0 O H σ en Q q =>
  h H0 O H σ en _ fun v H1 r1 s1 => ⟨v, .ty n, _, _, b, rfl, .ty n, (Res.bo en s1).ty, kit_ty e, q _ H1 r1 (.bl b)⟩
/-! ### what is walked -/
theorem i_seqL (h : Ev c tl Γ k (.list ds)) (hk : k ≠ .b) : EvI c (iSeq c.K tl) Γ true (ds.map Im.d) := fun H0 O H σ e R q => .inl (i_list h hk H0 O H σ e R q)
theorem i_seqB (h : Ev c tl Γ k (.list ds)) (hf : flatAll ds = true) : EvI c (iSeq c.K tl) Γ false (ds.map Im.d) := fun H0 O H σ e R q => .inl (i_listB h hf H0 O H σ e R q)
theorem i_seqT (h : Ev c tl Γ k (.tuple ds)) (hk : k ≠ .b) : EvI c (iSeq c.K tl) Γ true (ds.map Im.d) := fun H0 O H σ e R q => .inr (i_tup h hk H0 O H σ e R q)
/-- the places and the items -/
def enumI (ds : List PyData) : List Im := ds.zipIdx.map fun p => .t [.d (.int (p.2 : Nat)), .d p.1]
theorem enum_core {J : It} {xs : List V} {F : Hp} (jF : Ji c F) (hw : Walk J xs.length (fun H => Rr c F H) (YPair (fun i => some (.int (i : Nat))) fun i => xs[i]?)) (hb : BoAll c F xs ds) (hf : fz = true ∨ flatAll ds = true) : WD c F fz J (enumI ds) := by
  refine ⟨jF, ?_⟩
  have hl : xs.length = (enumI ds).length := by rw [hb.len]; simp [enumI]
  rw [hl] at hw
  refine hw.mono (fun _ h => h) fun i H x H' hi g y => ?_
  obtain ⟨T, x1, x2, rfl, hT, rfl, h1, h2⟩ := y
  cases h1
  obtain ⟨d, hd, bd⟩ := hb.get h2
  have sm : Same H (upd H T (.tup [.int (i : Nat), x2])) := fun b o z => by rw [upd_ne (ne_of_none z hT)]; exact z
  refine ⟨sm, .t [.d (.int (i : Nat)), .d d], ?_, .tup (.inl (.inl upd_same)) (.cons (.leaf (.inl ⟨rfl, .int _⟩)) (.cons (.leaf ?_) .nil))⟩
  · simp [enumI, hd]
  · rcases hf with hf | hf
    · exact .inr ⟨hf, bd⟩
    · exact .inl ⟨flatAll_one hf (List.mem_of_getElem? hd), bd.mono jF (g.tr (Rr.same sm))⟩
end Lm


namespace Lm
open PySem PySem.Spec PyProof.Rows L2
section
variable {prog : Program} {w : World} {A : Around} {E : Value → Shared → Prop} {s : Shared}
/-- iter(t), what it takes to walk t -/
theorem iterTup {a : Addr} {its : Array Value} {Q : Value → Shared → Prop} (ht : s.heap.IsTuple a its)
    (h : ∀ s2 : Shared, s2 = { s with heap := s.heap.push { cls := .type "tuple_iterator", data := .fields #[.ref a, .int 0 0] } } → s2.heap.IsTupleIter s.heap.objs.size a 0 ∧ s2.heap.IsTuple a its → (∀ b ∈ [s.heap.objs.size, a], b < s2.heap.objs.size) → a ≠ s.heap.objs.size →
      (∀ b o, s.heap.get? b = some o → b ∉ [s.heap.objs.size] ∧ s2.heap.get? b = some o) → Q (.ref s.heap.objs.size) s2) : wpAny (model prog w) A (pyIter (.ref a)) Q E s := by
  have hlt : a < s.heap.objs.size := let ⟨_, g, _⟩ := ht; Heap.lt_size g
  refine wpAny_pyIter_tuple ht (h _ rfl ⟨⟨_, Heap.get?_push_size _ rfl, rfl, rfl⟩, ht.at fun o q => Heap.get?_push_of_some _ q⟩ (fun b hb => ?_) (Nat.ne_of_lt hlt) fun b o q => ⟨by simpa using Nat.ne_of_lt (Heap.lt_size q), Heap.get?_push_of_some _ q⟩)
  show b < (s.heap.push _).objs.size
  rw [Heap.size_push]
  rcases List.mem_cons.mp hb with rfl | hb
  · exact Nat.lt_succ_self _
  · cases List.mem_singleton.mp hb
    exact Nat.lt_succ_of_lt hlt
theorem preSum_take (ns : List Int) : ∀ j, j ≤ ns.length → preSum (fun i => ns.getD i 0) j = (ns.take j).sum
  | 0, _ => rfl
  | j + 1, h => by
    have e : ns[j]? = some ns[j] := List.getElem?_eq_getElem h
    rw [preSum, preSum_take ns j (Nat.le_of_succ_le h), sum_take e, List.getD_eq_getElem?_getD, e]
    rfl
theorem callSumT {a : Addr} {its : Array Value} {ns : List Int} {Q : Value → Shared → Prop} (hh : A.handled = none) (ht : s.heap.IsTuple a its) (hi : IntsAre its.toList ns)
    (h : ∀ h' tk t', (∀ b o, s.heap.get? b = some o → h'.get? b = some o) → Q (.int ns.sum t') { s with heap := h', toks := tk }) : wpAny (model prog w) A (call (.builtin "sum") [.ref a]) Q E s := by
  have hsz : its.size = ns.length := by rw [← Array.length_toList]; exact hi.length
  refine call_sum_walkG (iterTup ht fun s2 e st hfp hne old => ?_)
  refine ⟨_, _, _, ns.length, _, _, fun i => ns.getD i 0, rfl, hsz ▸ Walks.tuple (A := A.in1) hh _ a hne its, st, hfp, fun i v q => ?_, fun h' tk t' hk => ?_⟩
  · have h1 : its.toList[i]? = some v := by simpa using q
    have hlt : i < ns.length := by rw [← hi.length]; exact (List.getElem?_eq_some_iff.mp h1).1
    obtain ⟨t, h2⟩ := hi.get i ns[i] (List.getElem?_eq_getElem hlt)
    rw [h1] at h2
    refine ⟨t, ?_⟩
    show v = Value.int (ns.getD i 0) t
    rw [List.getD_eq_getElem?_getD, List.getElem?_eq_getElem hlt]
    exact Option.some.inj h2
  · rw [preSum_take ns _ (Nat.le_refl _), List.take_length]
    subst e
    exact h h' tk t' fun b o q => hk b o (old b o q).1 (old b o q).2
end
def rSumT (K : PySem.W.Frag) : List V → Hp → VK → Prop := fun vs H Q => ∃ (a : Addr) (ns : List Int), vs = [V.ref a] ∧ SqT K H a (ns.map V.int) ∧ Q (.int ns.sum) H
def rSumA (K : PySem.W.Frag) : List V → Hp → VK → Prop := fun vs H Q => rSum K vs H Q ∨ rSumT K vs H Q
section
variable {X : Cx}
theorem cr_sumT (hc : X.calm = true) : CallR X (.builtin "sum") (rSumT X.K) := by
  rintro pins s σ H vs us Q I r ⟨a, ns, rfl, hs, q⟩
  obtain ⟨its, rv, p, _⟩ := I.tuple hs
  rw [Vals.ref1 r]
  exact callSumT (I.ok.hd hc) (show s.heap.IsTuple a its.toArray from p) rv.ints fun h' tk t' hk => ⟨.int _, H, I.kept hk, ⟨_, rfl⟩, q⟩
theorem cr_sumA (hc : X.calm = true) : CallR X (.builtin "sum") (rSumA X.K) := (cr_sum hc).or (cr_sumT hc)
theorem cr_len : CallR X (.builtin "len") (rLen X.K) := call_len_seq
/-- a module's int -/
theorem pe_const {x : Str} {n : Int} {pos : Pos} (hg : Gl X x) (hm : ∃ t, X.mg x = some (.int n t)) (hd : (x == ("__debug__" : Str)) = false := by decide) : PE X (.Name x pos) (tC (.int n)) := by
  obtain ⟨t, h⟩ := hm
  exact pe_glob hg h ⟨t, rfl⟩ hd
/-- a built-in class as a value -/
theorem pe_ty {x : Str} {n : String} {pos : Pos} (hg : Gl X x) (hm : X.mg x = none) (hv : bootBuiltins x = some (.type n)) (hn : x ≠ "__name__" := by decide) (hd : (x == ("__debug__" : Str)) = false := by decide) : PE X (.Name x pos) (tC (.ty n)) :=
  pe_bltn hg hm hv rfl hn hd
/-- list(x) -/
def rListA (K : PySem.W.Frag) : List V → Hp → VK → Prop := fun xs H Q => ∃ p ys, xs = [.ref p] ∧ (SqL K H p ys ∨ SqT K H p ys) ∧ ∀ l, H l = none → Q (.ref l) (upd H l (.lst ys))
theorem cr_list : CallR X (.type "list") (rListA X.K) := call_list_of
end
variable {c : Ct} {H H' H0 H1 H2 H3 : Hp} {O : List Addr} {σ : L2.St} {Γ Γ' Γ1 : List (Option Rs)}
variable {te ta tb tx tl : TE} {tt tu : TT} {tr : TA} {k ka kb kc : Kd} {d x y z : PyData} {i j : Int} {a b : Bool} {kv fz : Bool} {ds es : List PyData}
theorem e_sumT {ns : List Int} (h : Ev c te Γ k (.tuple (ns.map .int))) : Ev c (tCB (rSumA c.K) (tCons te tNil)) Γ .v (.int ns.sum) :=
  d_cb (a_cons h a_nil) fun H O vs Q s q => by
    obtain ⟨x, rfl, b⟩ := s.one
    obtain ⟨p, xs, rfl, s, al⟩ := b.tup'
    have := al.ints
    subst this
    exact .inr ⟨p, ns, rfl, s.sq, q _ H Rr.rf (.int _)⟩
theorem e_sumL {ns : List Int} (h : Ev c te Γ k (.list (ns.map .int))) : Ev c (tCB (rSumA c.K) (tCons te tNil)) Γ .v (.int ns.sum) :=
  d_cb (a_cons h a_nil) fun H O vs Q s q => by
    obtain ⟨x, rfl, b⟩ := s.one
    obtain ⟨p, xs, rfl, _, s, al⟩ := b.lst'
    have := al.ints
    subst this
    exact .inl ⟨p, ns, rfl, s, q _ H Rr.rf (.int _)⟩
end Lm
namespace Lm
open PySem PySem.Spec PyProof.Rows L2
variable {c : Ct} {Γ : List (Option Rs)} {te : TE} {tt : TT} {fz : Bool} {α : Type} {wi : TI} {g : TG} {vs : List Nat} {l : List α} {en : α → Im}
theorem d_lcB (m : α → Bool) (hi : EvI c wi Γ fz (l.map en)) (hl : l.length ≤ 1000000)
    (hb : ∀ a ∈ l, ∃ Γ' js, EvG c g (en a) (wipeG Γ vs) Γ' js ∧ (∀ j ∈ js, j ∈ vs) ∧ ∃ k, Ev c te Γ' k (.bool (m a))) : Ev c (tLc wi g tYes te vs) Γ .o (.list ((l.map m).map .bool)) := by
  have := d_lcA (te := te) (g := g) (vs := vs) (fun a => PyData.bool (m a)) hi hl fun a ha => by
    obtain ⟨Γ', js, h1, h2, k, h3⟩ := hb a ha
    exact ⟨Γ', js, h1, h2, h3.fo rfl⟩
  rw [List.map_map]
  exact this
theorem d_lcI (m : α → Int) (hi : EvI c wi Γ fz (l.map en)) (hl : l.length ≤ 1000000)
    (hb : ∀ a ∈ l, ∃ Γ' js, EvG c g (en a) (wipeG Γ vs) Γ' js ∧ (∀ j ∈ js, j ∈ vs) ∧ ∃ k, Ev c te Γ' k (.int (m a))) : Ev c (tLc wi g tYes te vs) Γ .o (.list ((l.map m).map .int)) := by
  have := d_lcA (te := te) (g := g) (vs := vs) (fun a => PyData.int (m a)) hi hl fun a ha => by
    obtain ⟨Γ', js, h1, h2, k, h3⟩ := hb a ha
    exact ⟨Γ', js, h1, h2, h3.fo rfl⟩
  rw [List.map_map]
  exact this
end Lm
namespace Lm
open PySem
theorem flatT (ns : List Int) : flatD (.tuple (ns.map .int)) = true := flatAll_ints ns
end Lm
namespace Lm
open PySem PySem.Spec PyProof.Rows L2
end Lm
namespace Lm
open PySem PySem.Spec PyProof.Rows L2
def imI (n : Int) : Im := .d (.int n)
theorem i_seqTI {c : Ct} {Γ : List (Option Rs)} {tl : TE} {k : Kd} {ns : List Int} (h : Ev c tl Γ k (.tuple (ns.map .int))) (hk : k ≠ .b) : EvI c (iSeq c.K tl) Γ true (ns.map imI) := by
  have := i_seqT h hk
  rwa [List.map_map] at this
theorem i_seqLI {c : Ct} {Γ : List (Option Rs)} {tl : TE} {k : Kd} {ns : List Int} (h : Ev c tl Γ k (.list (ns.map .int))) (hk : k ≠ .b) : EvI c (iSeq c.K tl) Γ true (ns.map imI) := by
  have := i_seqL h hk
  rwa [List.map_map] at this
theorem kv_ne : Kd.v ≠ Kd.b := fun h => nomatch h
theorem ko_ne : Kd.o ≠ Kd.b := fun h => nomatch h
end Lm


/-! the rules, the written part given by name (within a comprehension's block it may not be read off the context) -/
namespace Lm
open PySem PySem.Spec PyProof.Rows L2
section
variable {X : Cx} {K : PySem.W.Frag} (hK : X.K = K)
include hK
theorem k_add : OpR X (binaryOp .Add) (rAddA K) := hK ▸ op_addA
theorem k_eq (hu : X.A.units + 64 < cLine) : OpR X (compareOp .Eq) (rEqA K) := hK ▸ op_eqA hu
theorem k_ne (hu : X.A.units + 64 < cLine) : OpR X (compareOp .NotEq) (rNeA K) := hK ▸ op_neA hu
theorem k_in : OpR X (compareOp .In) (rIn K false) := hK ▸ op_in_seq
theorem k_notIn : OpR X (compareOp .NotIn) (rIn K true) := hK ▸ op_notIn_seq
theorem k_ix : IxR X (rIx K) := hK ▸ ix_seq
theorem k_isi : CallR X (.builtin "isinstance") (rIsi K) := hK ▸ call_isi
theorem k_len : CallR X (.builtin "len") (rLen K) := hK ▸ cr_len
theorem k_all (hc : X.calm = true) : CallR X (.builtin "all") (rAll K) := hK ▸ cr_all hc
theorem k_sum (hc : X.calm = true) : CallR X (.builtin "sum") (rSumA K) := hK ▸ cr_sumA hc
theorem k_tuple : CallR X (.type "tuple") (rTuple K) := hK ▸ cr_tuple
theorem k_list : CallR X (.type "list") (rListA K) := hK ▸ cr_list
theorem k_seq {e tg : Expr} {tl : TE} (h : PE X e tl) : PI X tg e (iSeq K tl) := hK ▸ pi_seq h
theorem k_enum {e : Expr} {ta : TA} {p pos tpos : Pos} {elts : List Expr} {kk : Nat} (hg : Gl X "enumerate") (hm : X.mg "enumerate" = none) (ha : PA X [e] ta) (hs : starEach [e] X.env = [(false, eval e X.env)] := by rfl) :
    PI X (.Tuple elts kk tpos) (.Call (.Name "enumerate" p) [e] [] pos) (iEnumA K ta) := hK ▸ pi_enumA hg hm ha hs
theorem k_zip {e e2 : Expr} {ta : TA} {p pos tpos : Pos} {elts : List Expr} {kk : Nat} (hg : Gl X "zip") (hm : X.mg "zip" = none) (ha : PA X [e, e2] ta)
    (hs : starEach [e, e2] X.env = (false, eval e X.env) :: starEach [e2] X.env := by rfl) (hpl : (backTo pos (starEach [e2] X.env)).any (·.1) = false := by rfl) :
    PI X (.Tuple elts kk tpos) (.Call (.Name "zip" p) [e, e2] [] pos) (RZ.iZipA K ta) := hK ▸ RZ.pi_zipA hg hm ha hs hpl
theorem k_tup {es : List Expr} {k : Nat} {t : TGs} {n : Nat} {pos : Pos} (hc : X.calm = true) (h : PGs X es t)
    (hn : (assignEach es X.env).length = n := by rfl) (hst : (assignEach es X.env).findIdx? (·.1) = none := by rfl) : PG X (.Tuple es k pos) (gTup K n t) := hK ▸ pg_tup hc h hn hst
theorem k_bm {T : String} {name : Str} {id : String} {r : V → List V → Hp → VK → Prop} {o e : Expr} {es : List Expr} {to : TE} {t : TA} {apos cpos : Pos} (pa : PlainAttrs T) (slot : Slot T name id) (hty : typeOf (.builtin id) = pure (.type "method_descriptor")) (hm : MtR X id r) (ho : PE X o to) (ha : PA X (e :: es) t)
    (hbase : attributeBase o name X.env (eval o X.env) = eval o X.env := by rfl)
    (hfew : ((backTo cpos (starEach (e :: es) X.env)).all (fun x => !x.1) && (backToKw cpos (keywordEach [] X.env)).all (fun x => x.1.isSome) && decide ((e :: es).length + ([] : List Keyword).length + (if ([] : List Keyword).isEmpty then 0 else 1) < 30)) = true := by rfl)
    (hline : (apos.endLine == cpos.line) = true := by rfl) (hs : starEach (e :: es) X.env = (false, eval e X.env) :: starEach es X.env := by rfl) (hplain : (backTo cpos (starEach es X.env)).any (·.1) = false := by rfl) :
    PE X (.Call (.Attribute o name apos) (e :: es) [] cpos) (tBM K T r to t) := hK ▸ pe_bm pa slot hty hm ho ha hbase hfew hline hs hplain
end
end Lm


/-! the law's own start and end -/
namespace Lm
open PySem PySem.Spec PyProof.Rows L2
variable {c : Ct} {H H' H0 H1 H2 H3 : Hp} {O : List Addr} {σ : L2.St} {Γ Γ' Γ1 : List (Option Rs)}
variable {te ta tb tx tl : TE} {tt tu : TT} {tr : TA} {k ka kb kc : Kd} {d x y z : PyData} {i j : Int} {a b : Bool} {kv fz : Bool} {ds es : List PyData}
/-- law's: a list of at most 63 ints is handed in, True comes out -/
def spLaw (K : PySem.W.Frag) : Sp := fun vs H Q _ => ∃ (a : Addr) (ns : List Int), vs = [.ref a] ∧ SqL K H a (ns.map V.int) ∧ ns.length ≤ 63 ∧ ∀ H', Q (.bl true) H'
def spStream (K : PySem.W.Frag) : Sp := fun vs H Q _ => ∃ (a : Addr) (ns : List Int), vs = [.ref a] ∧ SqL K H a (ns.map V.int) ∧ ns.length ≤ 63 ∧ ∀ st l H', Same H H' → H st = none → Str1 K st l H' → Q (.ref st) H'
theorem run_law {K : PySem.W.Frag} {N : List Str} {t : TS} {vs : List V} {Q : VK} {E E' : XK} (hN : 2 ≤ N.length)
    (hs : ∀ st l, Sd (sc K st l) t (none :: some (.r (.ref st)) :: List.replicate (N.length - 2) none) (fun o => o = .rt .v (.bool true))) (h : spLaw K vs H Q E) :
    tSeq (tAsg (tCall (spStream K) [] E' (tCons (tVar 0) tNil)) (gName 1)) t { nx := fun _ H' => Q .non H', rt := Q } (start N vs) H := by
  obtain ⟨a, ns, rfl, hS, hl, hq⟩ := h
  have es : start N [.ref a] = some (.ref a) :: List.replicate (N.length - 1) none := rfl
  rw [es]
  refine ⟨.ref a, rfl, a, ns, rfl, hS, hl, fun st l H1 sm hst str => ?_⟩
  have j : Ji (sc K st l) H1 := fun st' l' e => by cases e; exact str
  refine hs st l H1 [] H1 _ _ ⟨Rr.same (by rw [mns_nil]; exact Same.refl _), by rw [mns_nil]; exact j, (fun _ h => nomatch h), (fun _ h => nomatch h), [], ?_, List.nodup_nil, (fun _ h => nomatch h)⟩ fun o po => ?_
  · have e2 : List.replicate (N.length - 1) (none : Option V) = none :: List.replicate (N.length - 2) none := by
      have : N.length - 1 = (N.length - 2) + 1 := by omega
      rw [this, List.replicate_succ]
    rw [e2]
    exact .cons (f := []) (fs := []) rfl (.cons (f := []) (fs := []) ⟨rfl, rfl⟩ (reps_none _))
  · subst po
    intro v H' _ rt
    have := rt.2.bl'
    subst this
    exact hq H'
/-! one of several answers -/
theorem n_bin {r : R2} {Pa Pb P : PyData → Prop} (ha : EvN c ta Γ ka Pa) (hb : EvN c tb Γ kb Pb)
    (hr : ∀ x y, Pa x → Pb y → ∃ z, P z ∧ ∀ H O v u (Q : VK), Bo c H v x → Bo c H u y → (∀ v' H2, Rr c H H2 → Bo c (mns H2 O) v' z → Q v' H2) → r v u H Q) : EvN c (tOp r ta tb) Γ .v P := fun H0 O H σ e Q q =>
  ha H0 O H σ e _ fun v x H1 px r1 s1 => hb H0 O H1 σ (e.on r1) _ fun u y H2 py r2 s2 => by
    obtain ⟨z, pz, hz⟩ := hr x y px py
    exact hz H2 O v u Q (Res.bo e (Res.on e r1 r2 s1)) (Res.bo (e.on r1) s2) fun v' H3 r3 b => q v' z H3 pz ((r1.tr r2).tr r3) b
/-- some int with Q -/
abbrev SomeI (Q : Int → Prop) : PyData → Prop := fun d => ∃ n : Int, d = .int n ∧ Q n
theorem n_add {Qa Qb Q : Int → Prop} (ha : EvN c ta Γ ka (SomeI Qa)) (hb : EvN c tb Γ kb (SomeI Qb)) (h : ∀ m n, Qa m → Qb n → Q (m + n)) : EvN c (tOp (rAddA c.K) ta tb) Γ .v (SomeI Q) :=
  n_bin ha hb fun x y ⟨m, hm, qm⟩ ⟨n, hn, qn⟩ => ⟨.int (m + n), ⟨_, rfl, h m n qm qn⟩, fun H O v u Q bv bu q => by
    subst hm; subst hn
    exact .inl ⟨m, n, bv.int', bu.int', q _ H Rr.rf (.int _)⟩⟩
theorem Ev.sm {Q : Int → Prop} (h : Ev c te Γ k (.int i)) (q : Q i) : EvN c te Γ k (SomeI Q) := h.n.imp fun d e => ⟨i, e, q⟩
end Lm


/-! what the defs promise -/
namespace Lm
open PySem PySem.Spec PyProof.Rows L2
/-- is an int from lo to hi -/
def isIntD : PyData → Int → Int → Bool
  | .int i, lo, hi => decide (lo ≤ i) && decide (i ≤ hi)
  | _, _, _ => false
def isIntTy : PyData → Bool
  | .int _ => true
  | .bool _ => true
  | _ => false
def isBoolTy : PyData → Bool
  | .bool _ => true
  | _ => false
theorem kit_int (x : PyData) : kitB (tyD x) "int" = some (isIntTy x) := by cases x <;> (simp only [tyD, isIntTy, isBoolTy]; decide +kernel)
theorem kit_bool (x : PyData) : kitB (tyD x) "bool" = some (isBoolTy x) := by cases x <;> (simp only [tyD, isIntTy, isBoolTy]; decide +kernel)
def sp_is_integer (K : PySem.W.Frag) : Sp := spD K fun ds k d => ∃ x lo hi, ds = [x, .int lo, .int hi] ∧ k = .v ∧ d = .bool (isIntD x lo hi)


def sp_require (K : PySem.W.Frag) : Sp := spD K fun ds k d => ∃ nm, ds = [.bool true, .str nm] ∧ k = .v ∧ d = .none
/-- a tuple of ints from lo to hi -/
def areInts : PyData → Int → Int → Bool
  | .tuple ds, lo, hi => ds.all fun d => isIntD d lo hi
  | _, _, _ => false
def isTupTy : PyData → Bool
  | .tuple _ => true
  | _ => false
theorem kit_tuple (x : PyData) : kitB (tyD x) "tuple" = some (isTupTy x) := by cases x <;> (simp only [tyD, isTupTy]; decide +kernel)
/-- tuples are not too long -/
def SmallT (x : PyData) : Prop := ∀ es, x = .tuple es → es.length ≤ 1000000
def sp_are_integers (K : PySem.W.Frag) : Sp := spD K fun ds k d => ∃ x lo hi, ds = [x, .int lo, .int hi] ∧ SmallT x ∧ k = .v ∧ d = .bool (areInts x lo hi)
theorem isInt_int {d : PyData} {lo hi : Int} (h : isIntD d lo hi = true) : ∃ n, d = .int n ∧ lo ≤ n ∧ n ≤ hi := by
  cases d with
  | int i =>
    simp only [isIntD, Bool.and_eq_true, decide_eq_true_eq] at h
    exact ⟨i, rfl, h.1, h.2⟩
  | _ => simp [isIntD] at h
theorem areInts_ints {x : PyData} {lo hi : Int} (h : areInts x lo hi = true) : ∃ ns : List Int, x = .tuple (ns.map .int) ∧ ∀ n ∈ ns, lo ≤ n ∧ n ≤ hi := by
  cases x with
  | tuple ds =>
    have h' : (ds.all fun d => isIntD d lo hi) = true := h
    clear h
    induction ds with
    | nil => exact ⟨[], rfl, fun _ h => nomatch h⟩
    | cons d ds ih =>
      rw [List.all_cons, Bool.and_eq_true] at h'
      obtain ⟨n, rfl, h1, h2⟩ := isInt_int h'.1
      obtain ⟨ns, e, h3⟩ := ih h'.2
      refine ⟨n :: ns, by rw [PyData.tuple.inj e]; rfl, fun m hm => ?_⟩
      rcases List.mem_cons.mp hm with q | q
      · rw [q]; exact ⟨h1, h2⟩
      · exact h3 m q
  | _ => simp [areInts] at h
theorem areInts_of {ns : List Int} {lo hi : Int} (h : ∀ n ∈ ns, lo ≤ n ∧ n ≤ hi) : areInts (.tuple (ns.map .int)) lo hi = true := by
  show ((ns.map PyData.int).all fun d => isIntD d lo hi) = true
  rw [List.all_map, List.all_eq_true]
  intro n hn
  have := h n hn
  simp [isIntD, this.1, this.2]


def lenT : PyData → Nat
  | .tuple ds => ds.length
  | _ => 0
def intD : PyData → Int
  | .int i => i
  | _ => 0
def sumT : PyData → Int
  | .tuple ds => (ds.map intD).sum
  | _ => 0
theorem lenT_ints (ns : List Int) : lenT (.tuple (ns.map .int)) = ns.length := by simp [lenT]
theorem sumT_ints (ns : List Int) : sumT (.tuple (ns.map .int)) = ns.sum := by
  have : (intD ∘ PyData.int) = id := rfl
  simp [sumT, this]
/-- how often each variant occurs -/
def countsI (ns : List Int) (v : Int) : List Int := (upI 0 v.toNat).map fun i => (ns.count i : Int)
/-- an assignment of at most 20 buckets to v variants -/
structure Asg (ns : List Int) (v : Int) : Prop where
  len : ns.length ≤ 20
  rng : ∀ n ∈ ns, 0 ≤ n ∧ n < v
theorem small_ints {ns : List Int} (h : ns.length ≤ 1000000) : SmallT (.tuple (ns.map .int)) := fun es e => by
  rw [← PyData.tuple.inj e]
  simpa using h
def sp__law_next (K : PySem.W.Frag) : Sp := spS K fun ds k P => ∃ m : Int, ds = [.int m] ∧ 0 < m ∧ m < 1073741824 ∧ k = .v ∧ P = fun d => ∃ n : Int, d = .int n ∧ 0 ≤ n ∧ n < m
theorem Str1.put {K : PySem.W.Frag} {st l : Addr} {H : Hp} {ns : List Int} {x k : Int} (h2 : H l = some (.lst (ns.map V.int))) (h3 : l ≠ st) (h4 : 0 ≤ k) : Str1 K st l (upd H st (.lst [.ref l, .int x, .int k])) :=
  ⟨ns, x, k, upd_same, by rw [upd_ne h3]; exact h2, h3, h4⟩


/-! the law's helpers -/

def sp__law_stream := spStream
def isIntNB : PyData → Bool
  | .int _ => true
  | _ => false
def sp__law_is_integer (K : PySem.W.Frag) : Sp := spD K fun ds k d => ∃ x, ds = [x] ∧ k = .v ∧ d = .bool (isIntNB x)
/-- data that _law_equal may look at, to some depth -/
inductive EqOk : Nat → PyData → Prop
  | non {n} : EqOk n .none
  | bl {n} (b : Bool) : EqOk n (.bool b)
  | int {n} (i : Int) : EqOk n (.int i)
  | str {n} (s : Str) : EqOk n (.str s)
  | lst {n} {xs : List PyData} : xs.length ≤ 1000000 → (∀ x ∈ xs, EqOk n x) → EqOk (n + 1) (.list xs)
  | tup {n} {xs : List PyData} : xs.length ≤ 1000000 → (∀ x ∈ xs, EqOk n x) → EqOk (n + 1) (.tuple xs)
def spEq (K : PySem.W.Frag) : Nat → Sp
  | 0 => fun _ _ _ _ => False
  | n + 1 => spD K fun ds k d => ∃ x, ds = [x, x] ∧ EqOk n x ∧ k = .v ∧ d = .bool true
def sp__law_equal (K : PySem.W.Frag) : Sp := spEq K 8
theorem EqOk.ints {n : Nat} {ns : List Int} (h : ns.length ≤ 1000000) : EqOk (n + 1) (.tuple (ns.map .int)) := .tup (by simpa using h) fun x hx => by
  obtain ⟨i, _, rfl⟩ := List.mem_map.mp hx
  exact .int i
theorem EqOk.up {n : Nat} {x : PyData} (h : EqOk n x) : ∀ {m : Nat}, n ≤ m → EqOk m x := by
  induction h with
  | non => intro m _; exact .non
  | bl b => intro m _; exact .bl b
  | int i => intro m _; exact .int i
  | str s => intro m _; exact .str s
  | lst hl _ ih =>
    intro m hm
    cases m with
    | zero => omega
    | succ m => exact .lst hl fun x hx => ih x hx (by omega)
  | tup hl _ ih =>
    intro m hm
    cases m with
    | zero => omega
    | succ m => exact .tup hl fun x hx => ih x hx (by omega)


theorem n_draws {c : Ct} {Γ : List (Option Rs)} {te : TE} {fz : Bool} {wi : TI} {g : TG} {vs : List Nat} {items : List Im} (Q : Int → Prop) (hi : EvI c wi Γ fz items) (hl : items.length ≤ 1000000)
    (hb : ∀ a ∈ items, ∃ Γ' js, EvG c g a (wipeG Γ vs) Γ' js ∧ (∀ j ∈ js, j ∈ vs) ∧ ∃ k, EvN c te Γ' k (fun d => ∃ n : Int, d = .int n ∧ Q n)) :
    EvN c (tLc wi g tYes te vs) Γ .o (fun d => ∃ acc, d = .list acc ∧ ∃ ns : List Int, acc = ns.map .int ∧ ns.length = items.length ∧ ∀ n ∈ ns, Q n) := by
  refine n_lc (fun m acc => ∃ ns : List Int, acc = ns.map .int ∧ ns.length = m ∧ ∀ n ∈ ns, Q n) hi hl ⟨[], rfl, rfl, fun _ h => nomatch h⟩ fun m a acc ha hM => ?_
  obtain ⟨Γ', js, h1, h2, k, h3⟩ := hb a (List.mem_of_getElem? ha)
  obtain ⟨ns, rfl, hn, hq⟩ := hM
  refine ⟨Γ', js, h1, h2, true, fun d => ∃ n : Int, d = .int n ∧ Q n, t_yes, fun _ => ⟨h3.fo (by rintro d ⟨n, rfl, _⟩; rfl), ?_⟩, fun e => nomatch e⟩
  rintro d ⟨n, rfl, q⟩
  refine ⟨ns ++ [n], by simp, by simp [hn], fun x hx => ?_⟩
  rcases List.mem_append.mp hx with w | w
  · exact hq x w
  · rw [List.mem_singleton.mp w]; exact q

theorem upI0 (v : Nat) : upI 0 v = (List.range v).map fun (i : Nat) => (i : Int) := by
  unfold upI
  apply List.map_congr_left
  intro i _
  omega
theorem upI_count {v : Nat} {n : Int} (h0 : 0 ≤ n) (h1 : n < v) : (upI 0 v).count n = 1 := by
  obtain ⟨m, rfl⟩ := Int.eq_ofNat_of_zero_le h0
  have hm : m < v := by omega
  rw [upI0, List.count_eq_countP, List.countP_map]
  have e : ((fun x : Int => x == (m : Int)) ∘ fun (i : Nat) => (i : Int)) = fun i : Nat => i == m := by
    funext i
    show ((i : Int) == (m : Int)) = (i == m)
    rw [Bool.eq_iff_iff]
    simp
    omega
  rw [e]
  have : List.countP (fun i => i == m) (List.range v) = (List.range v).count m := rfl
  rw [this, List.nodup_range.count]
  simp [hm]
theorem count_sum (v : Nat) : ∀ ns : List Int, (∀ n ∈ ns, 0 ≤ n ∧ n < (v : Int)) → ((upI 0 v).map fun i => (ns.count i : Int)).sum = ns.length := by
  intro ns
  induction ns with
  | nil =>
    intro _
    generalize upI 0 v = l
    induction l with
    | nil => rfl
    | cons a l ih =>
      rw [List.map_cons, List.sum_cons, ih]
      rfl
  | cons n ns ih =>
    intro hv
    have ih' := ih fun m hm => hv m (by simp [hm])
    have hn := hv n (by simp)
    have key : ∀ l : List Int, (l.map fun i => ((n :: ns).count i : Int)).sum = (l.map fun i => (ns.count i : Int)).sum + l.count n := by
      intro l
      induction l with
      | nil => rfl
      | cons a l ihl =>
        rw [List.map_cons, List.sum_cons, List.map_cons, List.sum_cons, ihl, List.count_cons, List.count_cons]
        by_cases h : n = a
        · subst h
          rw [beq_self_eq_true, if_pos rfl]
          omega
        · rw [beq_eq_false_iff_ne.mpr h, beq_eq_false_iff_ne.mpr (fun e => h e.symm)]
          simp
          omega
    rw [key, ih', upI_count hn.1 hn.2]
    simp
def isListTy : PyData → Bool
  | .list _ => true
  | _ => false
def isStrTy : PyData → Bool
  | .str _ => true
  | _ => false
theorem kit_list (x : PyData) : kitB (tyD x) "list" = some (isListTy x) := by cases x <;> (simp only [tyD, isListTy]; decide +kernel)
theorem kit_str (x : PyData) : kitB (tyD x) "str" = some (isStrTy x) := by cases x <;> (simp only [tyD, isStrTy]; decide +kernel)
theorem atI_i {ds : List PyData} {i : Nat} {d : PyData} (h : ds[i]? = some d) : atI ds ((0 : Int) + (i : Int)) = some d := by rw [Int.zero_add]; exact atI_nat h

end Lm


/-! more rules: a list unpacked, tuple.index of an int, the number of a tuple's different ints, list.pop(i) -/
namespace Lm
open PySem PySem.Spec PyProof.Rows L2
section
variable {prog : Program} {w : World} {A : Around} {E : Value → Shared → Prop} {s : Shared}
end
section
variable {X : Cx}
theorem length_sub : ∀ {as bs : List Int}, as.Nodup → (∀ k, k ∈ as → k ∈ bs) → as.length ≤ bs.length
  | [], _, _, _ => Nat.zero_le _
  | a :: as, bs, ha, h => by
    have hm : a ∈ bs := h a (by simp)
    obtain ⟨hna, hnd⟩ := List.nodup_cons.mp ha
    have := length_sub (bs := bs.erase a) hnd fun k q => (List.mem_erase_of_ne fun (z : k = a) => hna (by rw [← z]; exact q)).mpr (h k (by simp [q]))
    rw [List.length_erase_of_mem hm] at this
    have : 0 < bs.length := List.length_pos_of_mem hm
    simp only [List.length_cons]
    omega
end
section
variable {X : Cx} {K : PySem.W.Frag} (hK : X.K = K)
include hK
end
end Lm


namespace Lm
open PySem PySem.Spec PyProof.Rows L2
variable {c : Ct} {H H' H0 H1 H2 H3 : Hp} {O : List Addr} {σ : L2.St} {Γ Γ' Γ1 : List (Option Rs)}
variable {te ta tb tx tl : TE} {tt tu : TT} {tr : TA} {k ka kb kc : Kd} {d x y z : PyData} {i j : Int} {a b : Bool} {kv fz : Bool} {ds es : List PyData}
/-! ### zip of two tuples -/
def zipD (ds es : List PyData) : List Im := (ds.zip es).map fun p => .t [.d p.1, .d p.2]
theorem walk_zipT {K : PySem.W.Frag} {p q : Addr} {xs ys : List V} {n : Nat} (hn : n = min xs.length ys.length) : Walk (RZ.ItzT K p q) n (fun H => SqT K H p xs ∧ SqT K H q ys) (YPair (fun i => xs[i]?) (fun i => ys[i]?)) where
  goes := fun i _ hi w => ⟨xs, ys, xs[i]'(by omega), ys[i]'(by omega), w.1, w.2, List.getElem?_eq_getElem (by omega), List.getElem?_eq_getElem (by omega)⟩
  stops := fun _ w => ⟨xs, ys, w.1, w.2, by omega⟩
  yields := fun i H v H' _ w ⟨T, x, z, h1, h2, h3, h4, h5⟩ => ⟨T, x, z, h1, h2, h3, h4 xs w.1, h5 ys w.2⟩
theorem i_zipT (h : EvA c tr Γ true [.tuple ds, .tuple es]) : EvI c (RZ.iZipA c.K tr) Γ true (zipD ds es) := fun H0 O H σ e R q =>
  h H0 O H σ e _ fun vs H1 r s => by
    obtain ⟨x, y, rfl, b1, b2⟩ := (BoAll.vm s).two
    obtain ⟨p, xs, rfl, sl, al⟩ := b1.tup'
    obtain ⟨p2, ys, rfl, sl2, al2⟩ := b2.tup'
    refine ⟨p, p2, xs, ys, rfl, .inr ⟨(sqT_same mns_same sl).sq, (sqT_same mns_same sl2).sq, q _ H1 r ⟨(e.on r).j, ?_⟩⟩⟩
    have hl : (zipD ds es).length = min xs.length ys.length := by rw [al.len, al2.len]; simp [zipD]
    refine (walk_zipT hl).mono (fun H h => ⟨(h.tup (e.on r).j sl).sq, (h.tup (e.on r).j sl2).sq⟩) fun i H v H' hi g w => ?_
    obtain ⟨T, u1, u2, rfl, hT, rfl, g1, g2⟩ := w
    obtain ⟨d1, hd1, bd1⟩ := al.get g1
    obtain ⟨d2, hd2, bd2⟩ := al2.get g2
    have sm : Same H (upd H T (.tup [u1, u2])) := fun b o z => by rw [upd_ne (ne_of_none z hT)]; exact z
    refine ⟨sm, .t [.d d1, .d d2], ?_, .tup (.inl (.inl upd_same)) (.cons (.leaf (.inr ⟨rfl, bd1⟩)) (.cons (.leaf (.inr ⟨rfl, bd2⟩)) .nil))⟩
    have : (ds.zip es)[i]? = some (d1, d2) := by rw [List.getElem?_zip_eq_some]; exact ⟨hd1, hd2⟩
    simp [zipD, this]
def zipI (p : Int × Int) : Im := .t [.d (.int p.1), .d (.int p.2)]
theorem i_zipTI {ns ms : List Int} (h : EvA c tr Γ true [.tuple (ns.map .int), .tuple (ms.map .int)]) : EvI c (RZ.iZipA c.K tr) Γ true ((ns.zip ms).map zipI) := by
  have e : zipD (ns.map .int) (ms.map .int) = (ns.zip ms).map zipI := by
    unfold zipD
    rw [List.zip_map, List.map_map]
    rfl
  exact e ▸ i_zipT h
/-! ### calls -/
/-! ### unpacking -/
end Lm


/-! what more defs promise: allocations, orders -/
namespace Lm
open PySem PySem.Spec PyProof.Rows L2
/-- an allocation of b buckets to v variants -/
structure Alc (ns : List Int) (v b : Int) : Prop where
  len : (ns.length : Int) = v
  sum : ns.sum = b
  nn : ∀ n ∈ ns, 0 ≤ n
theorem sum_nn : ∀ {ns : List Int}, (∀ n ∈ ns, 0 ≤ n) → 0 ≤ ns.sum
  | [], _ => by simp
  | n :: ns, h => by
    have h1 := sum_nn (ns := ns) fun m hm => h m (by simp [hm])
    have h2 := h n (by simp)
    simp only [List.sum_cons]; omega
theorem le_sum : ∀ {ns : List Int}, (∀ n ∈ ns, 0 ≤ n) → ∀ m ∈ ns, m ≤ ns.sum
  | [], _, m, hm => nomatch hm
  | n :: ns, h, m, hm => by
    have h1 := sum_nn (ns := ns) fun m hm => h m (by simp [hm])
    have h2 := h n (by simp)
    simp only [List.sum_cons]
    rcases List.mem_cons.mp hm with q | q
    · rw [q]; omega
    · have := le_sum (ns := ns) (fun m hm => h m (by simp [hm])) m q
      omega
theorem Alc.le {ns : List Int} {v b : Int} (h : Alc ns v b) : ∀ n ∈ ns, n ≤ b := fun n hn => h.sum ▸ le_sum h.nn n hn
/-- the numbers from 0 to m - 1, each once -/
structure IsOrd (ns : List Int) (m : Int) : Prop where
  len : (ns.length : Int) = m
  nd : ns.Nodup
  rng : ∀ n ∈ ns, 0 ≤ n ∧ n < m
def placedI (ns os : List Int) : List Int := (upI 0 os.length).map fun i => ns.getD (os.idxOf i) 0
/-! orders: every number has its place -/
theorem nodup_inj {ns : List Int} (h : ns.Nodup) {i j : Nat} (hi : i < ns.length) (hj : j < ns.length) (e : ns[i] = ns[j]) : i = j := by
  have p := List.pairwise_iff_getElem.mp h
  rcases Nat.lt_trichotomy i j with q | q | q
  · exact absurd e (p i j hi hj q)
  · exact q
  · exact absurd e.symm (p j i hj hi q)
theorem perm_sum {as bs : List Int} (h : as.Perm bs) : as.sum = bs.sum := by
  induction h with
  | nil => rfl
  | cons x _ ih => simp [ih]
  | swap x y l => simp only [List.sum_cons]; omega
  | trans _ _ ih1 ih2 => exact ih1.trans ih2
theorem mem_upI {n : Nat} {i : Int} : i ∈ upI 0 n ↔ 0 ≤ i ∧ i < n := by
  unfold upI
  rw [List.mem_map]
  constructor
  · rintro ⟨m, hm, rfl⟩
    have := List.mem_range.mp hm
    omega
  · rintro ⟨h0, h1⟩
    exact ⟨i.toNat, List.mem_range.mpr (by omega), by omega⟩
theorem nodup_upI (n : Nat) : (upI 0 n).Nodup := by
  rw [upI0]
  exact List.Pairwise.map _ (fun a b h e => h (Int.ofNat.inj e)) List.nodup_range
theorem IsOrd.mem {ns : List Int} {m : Int} (h : IsOrd ns m) {i : Int} (h0 : 0 ≤ i) (h1 : i < m) : i ∈ ns := by
  refine Decidable.byContradiction fun hn => ?_
  have h2 : (i :: ns).length ≤ (upI 0 ns.length).length := length_sub (List.nodup_cons.mpr ⟨hn, h.nd⟩) fun k hk => by
    have hl := h.len
    rcases List.mem_cons.mp hk with q | q
    · rw [q, mem_upI]; omega
    · rw [mem_upI]; have := h.rng k q; omega
  simp [upI] at h2
  omega
theorem IsOrd.perm {ns : List Int} {m : Int} (h : IsOrd ns m) : (upI 0 ns.length).Perm ns := by
  refine (List.perm_iff_count.mpr fun i => ?_)
  by_cases q : 0 ≤ i ∧ i < (ns.length : Int)
  · rw [upI_count q.1 q.2, h.nd.count]
    rw [if_pos (h.mem q.1 (by have := h.len; omega))]
  · rw [List.count_eq_zero_of_not_mem (fun z => q (mem_upI.mp z)), List.count_eq_zero_of_not_mem (fun z => q (by have := h.rng i z; have := h.len; omega))]
theorem IsOrd.idx {ns : List Int} {m : Int} (h : IsOrd ns m) {i : Int} (h0 : 0 ≤ i) (h1 : i < m) : ∃ hj : ns.idxOf i < ns.length, ns[ns.idxOf i]? = some i ∧ ∀ n, n < ns.idxOf i → ns[n]? ≠ some i := by
  have hj : ns.idxOf i < ns.length := List.idxOf_lt_length_of_mem (h.mem h0 h1)
  refine ⟨hj, ?_, fun n hn e => ?_⟩
  · rw [List.getElem?_eq_getElem hj, List.getElem_idxOf hj]
  · have hl : n < ns.length := by omega
    have e1 : ns[n] = i := by rw [List.getElem?_eq_getElem hl] at e; exact Option.some.inj e
    have e2 : ns[ns.idxOf i] = i := List.getElem_idxOf hj
    have := nodup_inj h.nd hl hj (e1.trans e2.symm)
    omega
theorem IsOrd.idxOf_get {ns : List Int} {m : Int} (h : IsOrd ns m) {j : Nat} (hj : j < ns.length) : ns.idxOf ns[j] = j := by
  have hm : ns[j] ∈ ns := List.getElem_mem hj
  have hl : ns.idxOf ns[j] < ns.length := List.idxOf_lt_length_of_mem hm
  exact nodup_inj h.nd hl hj (List.getElem_idxOf hl)
/-- a sum over the placed is the sum over the old -/
theorem IsOrd.sums {os : List Int} {m : Int} (h : IsOrd os m) (f : Nat → Int) : ((upI 0 os.length).map fun i => f (os.idxOf i)).sum = ((List.range os.length).map f).sum := by
  have e : os.map (fun i => f (os.idxOf i)) = (List.range os.length).map f := by
    apply List.ext_getElem
    · simp
    · intro j h1 h2
      simp only [List.getElem_map, List.getElem_range]
      rw [h.idxOf_get (by simpa using h1)]
  rw [← e]
  exact perm_sum (h.perm.map _)
theorem sum_range {ns : List Int} : ((List.range ns.length).map fun j => ns.getD j 0).sum = ns.sum := by
  congr 1
  apply List.ext_getElem
  · simp
  · intro j h1 h2
    have h2' : j < ns.length := h2
    simp [List.getD_eq_getElem?_getD, List.getElem?_eq_getElem h2']
theorem IsOrd.alc {ns os : List Int} {v b : Int} (h : Alc ns v b) (o : IsOrd os v) : Alc (placedI ns os) v b := by
  have hl : os.length = ns.length := by have := h.len; have := o.len; omega
  refine ⟨?_, ?_, ?_⟩
  · simp [placedI, upI, o.len]
  · unfold placedI
    rw [o.sums fun j => ns.getD j 0, hl, sum_range, h.sum]
  · intro n hn
    obtain ⟨i, _, rfl⟩ := List.mem_map.mp hn
    rw [List.getD_eq_getElem?_getD]
    cases q : ns[os.idxOf i]? with
    | none => exact Int.le_refl _
    | some x => exact h.nn x (List.mem_of_getElem? q)
end Lm


/-! allocations: how they are made, what goes over -/
namespace Lm
open PySem PySem.Spec PyProof.Rows L2
theorem sum_set : ∀ {ns : List Int} {m : Nat} {x : Int}, m < ns.length → (ns.set m x).sum = ns.sum - ns.getD m 0 + x
  | [], _, _, h => by simp at h
  | n :: ns, 0, x, _ => by
    show x + ns.sum = (n + ns.sum) - n + x
    omega
  | n :: ns, m + 1, x, h => by
    have := sum_set (ns := ns) (m := m) (x := x) (by simpa using h)
    show n + (ns.set m x).sum = (n + ns.sum) - ns.getD m 0 + x
    omega
theorem Alc.one {ns : List Int} {v : Int} {b m : Nat} (h : Alc ns v b) (hm : m < ns.length) : Alc (ns.set m (ns.getD m 0 + 1)) v ((b + 1 : Nat) : Int) := by
  refine ⟨by rw [List.length_set]; exact h.len, ?_, fun n hn => ?_⟩
  · have := h.sum
    rw [sum_set hm]
    omega
  · rcases List.mem_or_eq_of_mem_set hn with q | q
    · exact h.nn n q
    · have : ns.getD m 0 ∈ ns := by
        rw [List.getD_eq_getElem?_getD, List.getElem?_eq_getElem hm]
        exact List.getElem_mem hm
      have := h.nn _ this
      omega
theorem ord_upI {m : Int} (h : 0 ≤ m) : IsOrd (upI 0 m.toNat) m := by
  refine ⟨by simp [upI]; omega, nodup_upI _, fun n hn => ?_⟩
  have := mem_upI.mp hn
  omega
/-! ### sums over two lists at once -/
def zs (f : Int → Int → Int) (ns ms : List Int) : Int := ((List.range ns.length).map fun j => f (ns.getD j 0) (ms.getD j 0)).sum
theorem zs_cons {f : Int → Int → Int} {n m : Int} {ns ms : List Int} : zs f (n :: ns) (m :: ms) = f n m + zs f ns ms := by
  unfold zs
  rw [List.length_cons, List.range_succ_eq_map, List.map_cons, List.sum_cons, List.map_map]
  rfl
variable {ns ms ps : List Int} {v b : Int}
/-- a list that is filled place by place -/
structure Due (ns os due : List Int) (v : Int) (n : Nat) : Prop where
  len : (due.length : Int) = v
  got : ∀ j, j < n → due.getD (os.getD j 0).toNat 0 = ns.getD j 0
theorem gd_lt {l : List Int} {j : Nat} (h : j < l.length) : l.getD j 0 = l[j] := by
  rw [List.getD_eq_getElem?_getD, List.getElem?_eq_getElem h]
  rfl
theorem gd_mem {l : List Int} {j : Nat} (h : j < l.length) : l.getD j 0 ∈ l := by rw [gd_lt h]; exact List.getElem_mem h
variable {os due : List Int} {n : Nat}
theorem Due.step (d : Due ns os due v n) (ho : IsOrd os v) (hn : n < os.length) : Due ns os (due.set (os.getD n 0).toNat (ns.getD n 0)) v (n + 1) := by
  refine ⟨by rw [List.length_set]; exact d.len, fun j hj => ?_⟩
  have hl := d.len
  have r1 := ho.rng _ (gd_mem hn)
  have h1 : (os.getD n 0).toNat < due.length := by omega
  by_cases q : j = n
  · subst q
    rw [List.getD_eq_getElem?_getD, List.getElem?_set_self h1]
    rfl
  · have hj' : j < n := by omega
    have hjl : j < os.length := by omega
    have r2 := ho.rng _ (gd_mem hjl)
    have ne : (os.getD n 0).toNat ≠ (os.getD j 0).toNat := fun e => by
      have e2 : os.getD j 0 = os.getD n 0 := by omega
      rw [gd_lt hn, gd_lt hjl] at e2
      exact q (nodup_inj ho.nd hjl hn e2)
    rw [List.getD_eq_getElem?_getD, List.getElem?_set_ne ne, ← List.getD_eq_getElem?_getD]
    exact d.got j hj'
theorem upI_at {n m : Nat} {a : Im} (h : ((upI 0 n).map fun i => Im.d (.int i))[m]? = some a) : m < n ∧ a = .d (.int (m : Int)) := by
  unfold upI at h
  rw [List.map_map, List.getElem?_map] at h
  cases q : (List.range n)[m]? with
  | none => rw [q] at h; cases h
  | some j =>
    rw [q] at h
    have hm : m < n := by have := (List.getElem?_eq_some_iff.mp q).1; simpa using this
    have hj : j = m := by rw [List.getElem?_range hm] at q; exact (Option.some.inj q).symm
    subst hj
    refine ⟨hm, (Option.some.inj h).symm.trans ?_⟩
    show Im.d (.int (0 + (j : Int))) = _
    rw [Int.zero_add]
theorem ixN_at {n m : Nat} {i : Int} (hi : i = (m : Int)) (h : m < n) : ixN n i = some m := by
  rw [hi]
  exact Evl.ixN_nat h
theorem at_ints {ns : List Int} {j : Nat} (h : j < ns.length) : atI (ns.map PyData.int) (j : Int) = some (.int (ns.getD j 0)) := atI_nat (by simp [h])
end Lm


/-! pairs of assignments, moves, renaming and rearranging -/
namespace Lm
open PySem PySem.Spec PyProof.Rows L2
def ne1 (a b : Int) : Int := if a = b then 0 else 1
def backI (os : List Int) : List Int := (upI 0 os.length).map fun i => (os.idxOf i : Int)
variable {ns ms os : List Int} {v m b : Int}
theorem backI_len : (backI os).length = os.length := by simp [backI, upI]
theorem IsOrd.back (o : IsOrd os m) : IsOrd (backI os) m := by
  have hl := o.len
  refine ⟨by rw [backI_len]; exact hl, ?_, fun n hn => ?_⟩
  · unfold backI
    rw [List.nodup_iff_pairwise_ne, List.pairwise_map]
    refine List.Pairwise.imp_of_mem ?_ (List.nodup_iff_pairwise_ne.mp (nodup_upI os.length))
    intro a c ha hc hne e
    have a1 := mem_upI.mp ha
    have c1 := mem_upI.mp hc
    obtain ⟨_, ga, _⟩ := o.idx (i := a) a1.1 (by omega)
    obtain ⟨_, gc, _⟩ := o.idx (i := c) c1.1 (by omega)
    have e' : os.idxOf a = os.idxOf c := by omega
    rw [e', gc] at ga
    exact hne (Option.some.inj ga).symm
  · obtain ⟨i, hi, rfl⟩ := List.mem_map.mp hn
    have a1 := mem_upI.mp hi
    obtain ⟨hj, _, _⟩ := o.idx (i := i) a1.1 (by omega)
    omega
theorem countsI_len : (countsI ns v).length = v.toNat := by simp [countsI, upI]
theorem countsI_get {i : Nat} (h : (i : Int) < v) : (countsI ns v).getD i 0 = (ns.count (i : Int) : Int) := by
  unfold countsI
  rw [List.getD_eq_getElem?_getD]
  have : i < v.toNat := by omega
  simp [upI, this]
theorem Asg.alc (h : Asg ns v) (hv : 0 ≤ v) : Alc (countsI ns v) v ns.length := by
  refine ⟨by rw [countsI_len]; omega, ?_, fun n hn => ?_⟩
  · exact count_sum v.toNat ns fun n hn => by have := h.rng n hn; omega
  · obtain ⟨i, _, rfl⟩ := List.mem_map.mp hn
    omega
theorem e_neg {c : Ct} {Γ : List (Option Rs)} {te : TE} {k : Kd} {i : Int} (h : Ev c te Γ k (.int i)) : Ev c (tUn (rU fun i => .int (-i)) te) Γ .v (.int (-i)) := fun H0 O H σ e Q q =>
  h H0 O H σ e _ fun v H1 r s => ⟨i, (Res.bo e s).int', q _ H1 r (.int _)⟩
/-- a list of data that is filled place by place with ints -/
structure DueD (ns os : List Int) (due : List PyData) (v : Int) (n : Nat) : Prop where
  len : (due.length : Int) = v
  flat : ∀ d ∈ due, flatD d = true
  got : ∀ j, j < n → due[(os.getD j 0).toNat]? = some (.int (ns.getD j 0))
theorem DueD.fl {due : List PyData} {n : Nat} (d : DueD ns os due v n) : flatAll due = true := flatAll_mem d.flat
theorem DueD.step {due : List PyData} {n : Nat} (d : DueD ns os due v n) (ho : IsOrd os v) (hn : n < os.length) : DueD ns os (due.set (os.getD n 0).toNat (.int (ns.getD n 0))) v (n + 1) := by
  have hl := d.len
  have r1 := ho.rng _ (gd_mem hn)
  have h1 : (os.getD n 0).toNat < due.length := by omega
  refine ⟨by rw [List.length_set]; exact d.len, fun x hx => ?_, fun j hj => ?_⟩
  · rcases List.mem_or_eq_of_mem_set hx with q | q
    · exact d.flat x q
    · rw [q]; rfl
  by_cases q : j = n
  · subst q
    rw [List.getElem?_set_self h1]
  · have hj' : j < n := by omega
    have hjl : j < os.length := by omega
    have r2 := ho.rng _ (gd_mem hjl)
    have ne : (os.getD n 0).toNat ≠ (os.getD j 0).toNat := fun e => by
      have e2 : os.getD j 0 = os.getD n 0 := by omega
      rw [gd_lt hn, gd_lt hjl] at e2
      exact q (nodup_inj ho.nd hjl hn e2)
    rw [List.getElem?_set_ne ne]
    exact d.got j hj'
def tupI (ns : List Int) : Im := .d (.tuple (ns.map .int))
end Lm


/-! the least churn is what goes over -/
namespace Lm
open PySem PySem.Spec PyProof.Rows L2
variable {f g h ns ms : List Int} {v : Int}
/-- all assignments of n buckets to v variants -/
def allL (v : Int) : Nat → List (List Int)
  | 0 => [[]]
  | n + 1 => (allL v n).flatMap fun r => (upI 0 v.toNat).map fun x => r ++ [x]
theorem mem_allL (hv : 0 ≤ v) : ∀ (n : Nat) (r : List Int), r ∈ allL v n ↔ r.length = n ∧ ∀ x ∈ r, 0 ≤ x ∧ x < v
  | 0, r => by
    constructor
    · intro h
      have : r = [] := by simpa [allL] using h
      subst this
      exact ⟨rfl, fun _ h => nomatch h⟩
    · rintro ⟨h, _⟩
      rw [List.eq_nil_of_length_eq_zero h]
      simp [allL]
  | n + 1, r => by
    unfold allL
    rw [List.mem_flatMap]
    constructor
    · rintro ⟨q, hq, h⟩
      obtain ⟨x, hx, rfl⟩ := List.mem_map.mp h
      obtain ⟨h1, h2⟩ := (mem_allL hv n q).mp hq
      refine ⟨by simp [h1], fun y hy => ?_⟩
      rcases List.mem_append.mp hy with w | w
      · exact h2 y w
      · rw [List.mem_singleton.mp w]
        have := mem_upI.mp hx
        omega
    · rintro ⟨h1, h2⟩
      have hne : r ≠ [] := fun z => by rw [z] at h1; simp at h1
      refine ⟨r.dropLast, (mem_allL hv n _).mpr ⟨by rw [List.length_dropLast]; omega, fun x hx => h2 x (List.dropLast_subset r hx)⟩, List.mem_map.mpr ⟨r.getLast hne, mem_upI.mpr ?_, List.dropLast_concat_getLast hne⟩⟩
      have := h2 _ (List.getLast_mem hne)
      omega
end Lm


/-! a list handed from one name to another, list.extend, tuples put together, all assignments -/
namespace Lm
open PySem PySem.Spec PyProof.Rows L2
section
variable {c : Ct} {H H' H0 H1 H2 H3 : Hp} {O : List Addr} {σ : L2.St} {Γ Γ' Γ1 : List (Option Rs)}
variable {te ta tb : TE} {k ka kb : Kd} {d : PyData} {i j : Int} {ds es : List PyData} {u : TS} {P : Out → Prop} {n m : Nat}
theorem Env.move (e : Env c H0 O H σ Γ) (h : Γ[n]? = some (some (.o d))) (hm : m < Γ.length) : ∃ v, σ[n]? = some (some v) ∧ Env c H0 O H (σ.set m (some v)) ((Γ.set n none).set m (some (.o d))) := by
  obtain ⟨fp, hr, nd, sub⟩ := e.rep
  obtain ⟨x, f, pre, post, hx, ⟨v, rfl, fo⟩, hfp, up⟩ := hr.nth h
  subst hfp
  refine ⟨v, hx, e.r0, e.j, e.fr, e.dm, ?_⟩
  have r1 : Reps c O H (σ.set n (some v)) (Γ.set n none) (pre ++ ([] ++ post)) := up O H (some v) none [] (fun _ _ _ _ z => z) rfl
  have es : σ.set n (some v) = σ := by
    obtain ⟨hlt, e1⟩ := List.getElem?_eq_some_iff.mp hx
    rw [← e1]
    exact List.set_getElem_self hlt
  rw [es] at r1
  obtain ⟨y, f2, pre2, post2, hy, _, hfp2, up2⟩ := r1.nth (i := m) (s := (Γ.set n none)[m]'(by rw [List.length_set]; exact hm)) (List.getElem?_eq_getElem _)
  have r2 := up2 O H (some v) (some (.o d)) f (fun _ _ _ _ z => z) ⟨v, rfl, fo⟩
  rw [List.nil_append] at hfp2
  have p1 : (pre ++ (f ++ post)).Perm (f ++ (pre ++ post)) := by
    rw [← List.append_assoc, ← List.append_assoc]
    exact List.Perm.append_right _ List.perm_append_comm
  have nd1 := p1.nodup_iff.mp nd
  rw [hfp2] at nd1
  have p2 : (pre2 ++ (f ++ post2)).Perm (f ++ (pre2 ++ post2)) := by
    rw [← List.append_assoc, ← List.append_assoc]
    exact List.Perm.append_right _ List.perm_append_comm
  refine ⟨_, r2, p2.nodup_iff.mpr (nd1.sublist ?_), fun a ha => sub a (p1.mem_iff.mpr ?_)⟩
  · refine List.Sublist.append (List.Sublist.refl _) (List.Sublist.append (List.Sublist.refl _) ?_)
    exact List.sublist_append_right _ _
  · rw [hfp2]
    have := p2.mem_iff.mp ha
    simp at this ⊢
    rcases this with w | w | w <;> simp [w]
theorem s_mov (h : Γ[n]? = some (some (.o d))) (hm : m < Γ.length) (p : P (.nx ((Γ.set n none).set m (some (.o d))))) : Sd c (tAsg (tVar n) (gName m)) Γ P := fun H0 O H σ D e s => by
  obtain ⟨v, hv, e'⟩ := e.move h hm
  exact ⟨v, hv, s _ p O H _ e'⟩
/-- t + u -/
theorem e_catT (ha : Ev c ta Γ .v (.tuple ds)) (hb : Ev c tb Γ .v (.tuple es)) (hl : ds.length + es.length ≤ 1000000) : Ev c (tOp (rAddA c.K) ta tb) Γ .v (.tuple (ds ++ es)) := fun H0 O H σ e Q q =>
  ha H0 O H σ e _ fun v H1 r1 s1 => hb H0 O H1 σ (e.on r1) _ fun u H2 r2 s2 => by
    have bv : Bo c (mns H2 O) v (.tuple ds) := Res.on e r1 r2 s1
    have bu : Bo c (mns H2 O) u (.tuple es) := s2
    obtain ⟨p, xs, rfl, s, al⟩ := Bo.tup' bv
    obtain ⟨p2, ys, rfl, s', al'⟩ := Bo.tup' bu
    refine .inr (.inl ⟨p, p2, xs, ys, rfl, rfl, (sqT_same mns_same s).sq, (sqT_same mns_same s').sq, by rw [al.len, al'.len]; exact sizeOk hl, fun hx => ?_, fun hx hy => ?_, fun _ _ => newTk (c := c) fun q' H3 hp sm tp => ?_⟩)
    · subst hx
      cases al
      exact q _ H2 (r1.tr r2) bu
    · subst hy
      cases al'
      exact q _ H2 (r1.tr r2) (by show Bo c (mns H2 O) _ _; rw [List.append_nil]; exact bv)
    · have r3 : Rr c H2 H3 := Rr.same sm
      have e2 := (e.on r1).on r2
      exact q _ H3 ((r1.tr r2).tr r3) (.tup (tpN_mns e2 r3 tp) ((al.app al').mono e2.j (r3.mns e2.j e2.okO)))
/-- xs.extend(a new list of flat things) -/
theorem s_ext (hx : Γ[n]? = some (some (.o (.list ds)))) (h : Ev c te Γ .o (.list es)) (hf : flatAll es = true) (hl : ds.length + es.length ≤ 1000000) (p : P (.nx (Γ.set n (some (.o (.list (ds ++ es))))))) : Sd c (tDrop (tBM c.K "list" rExtend (tVar n) (tCons te tNil))) Γ P := fun H0 O H σ D e s => by
  obtain ⟨q, xs, f, hq, hp, fa, qf, qO, _⟩ := e.write (es := ds ++ es) hx
  refine ⟨.ref q, hq, .inl ⟨rfl, xs, .inl (.inl hp)⟩, h H0 O H σ e _ fun v H2 r rs => ?_⟩
  obtain ⟨fp, fo, nd, new⟩ := rs
  obtain ⟨b, zs, g, rfl, rfl, hb, fb⟩ := fo.list'
  obtain ⟨_, bb⟩ := fb.flat0 hf
  have e2 := e.on r
  obtain ⟨q', xs', f', hq', hp', fa', qf', qO', wr⟩ := e2.write (es := ds ++ es) hx
  have : q' = q := by rw [hq] at hq'; cases hq'; rfl
  subst this
  have lx : xs'.length = ds.length := (fa'.bo fun a ha => e.okO a (qO' a ha)).len
  refine ⟨q', b, xs', zs, rfl, rfl, hp', hb, by rw [lx, bb.len]; exact sizeOk hl, s _ p O _ σ (wr (xs' ++ zs) ?_)⟩
  have := fa'.app (FoAll.leaves hf bb)
  rw [List.append_nil] at this
  exact this.up (fun _ _ s => sqT_upd hp' s) fun a ha o z => by
    have : a ≠ q' := fun w => qf' (w ▸ ha)
    rw [upd_ne this]; exact z
end
abbrev tupD (r : List Int) : PyData := .tuple (r.map .int)
theorem flatD_rows (l : List (List Int)) : flatAll (l.map tupD) = true := flatAll_mem fun d hd => by
  obtain ⟨r, _, rfl⟩ := List.mem_map.mp hd
  exact flatT r
end Lm


/-! own lists within an own list: rows[i][j] = .. -/
namespace Lm
open PySem PySem.Spec PyProof.Rows L2
variable {c : Ct} {H H' H0 H1 H2 H3 : Hp} {O : List Addr} {σ : L2.St} {Γ Γ' Γ1 : List (Option Rs)}
theorem FoAll.nth : ∀ {xs : List V} {ds : List PyData} {f : List Addr} {i : Nat} {d : PyData}, FoAll c H xs ds f → ds[i]? = some d →
    ∃ x g pre post, xs[i]? = some x ∧ Fo c H x d g ∧ f = pre ++ (g ++ post) ∧ ∀ (H' : Hp) (x' : V) (d' : PyData) (g' : List Addr), (∀ a xs, TpN c.K H a xs → TpN c.K H' a xs) → (∀ a ∈ pre ++ post, ∀ o, H a = some o → H' a = some o) → Fo c H' x' d' g' →
      FoAll c H' (xs.set i x') (ds.set i d') (pre ++ (g' ++ post))
  | _, _, _, _, _, .nil, h => by simp at h
  | _, _, _, 0, d, .cons (v := v) (f := f) (fs := fs) a b, h => by
    have e : _ = d := Option.some.inj h
    subst e
    exact ⟨v, f, [], fs, rfl, a, rfl, fun H' x' d' g' hT hk fo => FoAll.cons (f := g') (fs := fs) fo (b.up hT fun y hy => hk y (by simpa using hy))⟩
  | _, _, _, i + 1, d, .cons (v := v) (f := f) (fs := fs) a b, h => by
    obtain ⟨x, g, pre, post, h1, h2, h3, h4⟩ := FoAll.nth (i := i) b (by simpa using h)
    refine ⟨x, g, f ++ pre, post, by simpa using h1, h2, by rw [h3, List.append_assoc], fun H' x' d' g' hT hk fo => ?_⟩
    have r := h4 H' x' d' g' hT (fun y hy o z => hk y (by simp at hy ⊢; rcases hy with w | w <;> simp [w]) o z) fo
    rw [List.append_assoc]
    exact .cons (a.up hT fun y hy => hk y (by simp [hy])) r
end Lm


/-! choices and factorials -/
namespace Lm
open PySem PySem.Spec PyProof.Rows L2
def fac : Nat → Nat
  | 0 => 1
  | n + 1 => (n + 1) * fac n
end Lm


/-! states, their ways -/
namespace Lm
open PySem PySem.Spec PyProof.Rows L2
section
variable {X : Cx}
end
section
variable {c : Ct} {Γ : List (Option Rs)} {te ta tb : TE} {k ka kb : Kd} {u : TS} {P : Out → Prop} {n : Nat} {i j : Int}
end
/-- a state whose ways can be counted -/
structure StOk (ns ls es : List Int) : Prop where
  len : ns.length = ls.length
  l1 : ns.length ≤ 1000
  l2 : es.length ≤ 1000
  le : ∀ p ∈ ns.zip ls, 0 ≤ p.2 ∧ p.2 ≤ p.1 ∧ p.1 ≤ 20
  nn : ∀ e ∈ es, 0 ≤ e
  sum : es.sum ≤ 20
end Lm


/-! how many ways there are, told with factorials -/
namespace Lm
open PySem PySem.Spec PyProof.Rows L2
def nAt (ns : List Int) (j : Nat) : Nat := (ns.getD j 0).toNat
def gL (cs as : List Int) (j : Nat) : Nat := fac (min (nAt cs j) (nAt as j)) * fac (nAt cs j - nAt as j) * fac (nAt as j - nAt cs j)
section
variable {cs as : List Int} (hl : cs.length = as.length) (hc : ∀ n ∈ cs, 0 ≤ n) (ha : ∀ n ∈ as, 0 ≤ n)
include hl hc ha
end
end Lm


/-! slices of tuples; min and max of lists; sorted of lists; int of a truth; sums over three lists: what is in the middle -/
namespace Lm
open PySem PySem.Spec PyProof.Rows L2
section
variable {X : Cx} {K : PySem.W.Frag} (hK : X.K = K)
include hK
theorem k_min (hc : X.calm = true) : CallR X (.builtin "min") (rMin K) := hK ▸ cr_min hc
theorem k_max (hc : X.calm = true) : CallR X (.builtin "max") (rMax K) := hK ▸ cr_max hc
end
variable {c : Ct} {H H' H0 H1 H2 H3 : Hp} {O : List Addr} {Γ Γ' Γ1 : List (Option Rs)}
variable {te ta tb tx : TE} {tl th : TO} {k ka kb : Kd} {d x y z : PyData} {i j : Int} {a b : Bool} {ds es : List PyData}
def Eo (c : Ct) (t : TO) (Γ : List (Option Rs)) (o : Option Int) : Prop :=
  ∀ H0 O H σ, Env c H0 O H σ Γ → ∀ Q : Option Int → Hp → Prop, (∀ H2, Rr c H H2 → Q o H2) → t σ H Q
theorem o_none : Eo c tNoPart Γ none := fun H0 O H σ e Q q => q H Rr.rf
theorem o_some (h : Ev c te Γ k (.int i)) : Eo c (tPart te) Γ (some i) := fun H0 O H σ e Q q => h H0 O H σ e _ fun v H2 r s => ⟨i, (Res.bo e s).int', q H2 r⟩
def cutD {α : Type} (ds : List α) (lo hi : Option Int) : List α := (ds.drop (HT.sIx ds.length 0 lo)).take (HT.sIx ds.length ds.length hi - HT.sIx ds.length 0 lo)
theorem BoAll.cut {vs : List V} {lo hi : Option Int} (h : BoAll c H vs ds) : BoAll c H (cutV vs lo hi) (cutD ds lo hi) := by
  unfold cutV cutD
  rw [h.len]
  exact (h.drop _).take _
theorem cutD_hi {α : Type} {ds : List α} {t : Nat} (h : t ≤ ds.length) : cutD ds none (some (t : Int)) = ds.take t := by
  unfold cutD
  rw [HT.sIx_nat, HT.sIx_none, Nat.min_eq_left h]
  simp
/-! min and max of a list -/
def mnL : List Int → Int
  | [] => 0
  | [n] => n
  | n :: m :: ns => if mnL (m :: ns) < n then mnL (m :: ns) else n
theorem mnL_mem : ∀ {ns : List Int}, 0 < ns.length → mnL ns ∈ ns
  | [n], _ => by simp [mnL]
  | n :: m :: ns, _ => by
    have := mnL_mem (ns := m :: ns) (by simp)
    unfold mnL
    split
    · exact List.mem_cons_of_mem _ this
    · simp
theorem mnL_le : ∀ {ns : List Int}, ∀ y ∈ ns, mnL ns ≤ y
  | [], _, h => nomatch h
  | [n], y, h => by rw [List.mem_singleton.mp h]; exact Int.le_refl _
  | n :: m :: ns, y, h => by
    unfold mnL
    rcases List.mem_cons.mp h with q | q
    · subst q; split <;> omega
    · have := mnL_le (ns := m :: ns) y q
      split <;> omega
def mxL : List Int → Int
  | [] => 0
  | [n] => n
  | n :: m :: ns => if mxL (m :: ns) > n then mxL (m :: ns) else n
theorem mxL_mem : ∀ {ns : List Int}, 0 < ns.length → mxL ns ∈ ns
  | [n], _ => by simp [mxL]
  | n :: m :: ns, _ => by
    have := mxL_mem (ns := m :: ns) (by simp)
    unfold mxL
    split
    · exact List.mem_cons_of_mem _ this
    · simp
theorem mxL_le : ∀ {ns : List Int}, ∀ y ∈ ns, y ≤ mxL ns
  | [], _, h => nomatch h
  | [n], y, h => by rw [List.mem_singleton.mp h]; exact Int.le_refl _
  | n :: m :: ns, y, h => by
    unfold mxL
    rcases List.mem_cons.mp h with q | q
    · subst q; split <;> omega
    · have := mxL_le (ns := m :: ns) y q
      split <;> omega
theorem e_minL {ns : List Int} (h : Ev c te Γ k (.list (ns.map .int))) (hl : 0 < ns.length) : Ev c (tCB (rMin c.K) (tCons te tNil)) Γ .v (.int (mnL ns)) := fun H0 O H σ e Q q =>
  h H0 O H σ e _ fun v H1 r s => by
    obtain ⟨p, xs, rfl, _, sl, al⟩ := (Res.bo e s).lst'
    have := al.ints
    subst this
    refine ⟨p, ns, rfl, sl, hl, fun m h1 h2 => ?_⟩
    have e1 : m = mnL ns := by
      have := h2 _ (mnL_mem hl)
      have := mnL_le m h1
      omega
    rw [e1]
    exact q _ H1 r (.int _)
theorem e_maxL {ns : List Int} (h : Ev c te Γ k (.list (ns.map .int))) (hl : 0 < ns.length) : Ev c (tCB (rMax c.K) (tCons te tNil)) Γ .v (.int (mxL ns)) := fun H0 O H σ e Q q =>
  h H0 O H σ e _ fun v H1 r s => by
    obtain ⟨p, xs, rfl, _, sl, al⟩ := (Res.bo e s).lst'
    have := al.ints
    subst this
    refine ⟨p, ns, rfl, sl, hl, fun m h1 h2 => ?_⟩
    have e1 : m = mxL ns := by
      have := h2 _ (mxL_mem hl)
      have := mxL_le m h1
      omega
    rw [e1]
    exact q _ H1 r (.int _)
theorem e_intB {b : Bool} (h : Ev c te Γ k (.bool b)) : Ev c (tCB (fun xs H Q => (∃ i, xs = [V.int i] ∧ Q (.int i) H) ∨ ∃ k, xs = [V.bl k] ∧ Q (.int (if k then 1 else 0)) H) (tCons te tNil)) Γ .v (.int (if b then 1 else 0)) :=
  d_cb (a_cons h a_nil) fun H O vs Q s q => by
    obtain ⟨x, rfl, bb⟩ := s.one
    exact .inr ⟨b, by rw [bb.bl'], q _ H Rr.rf (.int _)⟩
theorem alc_counts {ns : List Int} {v : Int} (hr : ∀ n ∈ ns, 0 ≤ n ∧ n < v) (hv : 0 ≤ v) : Alc (countsI ns v) v ns.length := by
  refine ⟨by rw [countsI_len]; omega, ?_, fun n hn => ?_⟩
  · exact count_sum v.toNat ns fun n hn => by have := hr n hn; omega
  · obtain ⟨i, _, rfl⟩ := List.mem_map.mp hn
    omega
/-! sums over three lists -/
variable {F : Int → Int → Int → Int} {as bs cs as' bs' cs' : List Int}
variable {f g h : List Int} {v m : Int}
end Lm


/-! states, what can come next, and the ways on: the least changes -/
namespace Lm
open PySem PySem.Spec PyProof.Rows L2
abbrev gI (l : List Int) (i : Int) : Int := l.getD i.toNat 0
structure S3 where
  c : List Int
  l : List Int
  e : List Int
/-- a state that stands before the buckets f -/
structure St (v : Int) (S : S3) (f : List Int) : Prop where
  cl : (S.c.length : Int) = v
  ll : (S.l.length : Int) = v
  el : (S.e.length : Int) = v
  cs : ∀ i, 0 ≤ i ∧ i < v → gI S.c i = f.count i
  ls : ∀ i, 0 ≤ i ∧ i < v → 0 ≤ gI S.l i ∧ gI S.l i ≤ f.count i
  es : ∀ i, 0 ≤ i ∧ i < v → 0 ≤ gI S.e i ∧ (gI S.l i = 0 ∨ gI S.e i = 0)
  sum : S.l.sum = S.e.sum
  rng : ∀ n ∈ f, 0 ≤ n ∧ n < v
variable {v o n : Int} {S : S3} {f g : List Int}
theorem St.enn (h : St v S f) : ∀ n ∈ S.e, 0 ≤ n := fun n hn => by
  obtain ⟨k, hk, rfl⟩ := List.getElem_of_mem hn
  have := (h.es (k : Int) (by have := h.el; omega)).1
  unfold gI at this
  rw [Int.toNat_natCast, gd_lt hk] at this
  exact this
/-- a list comes before another, or is it -/
def lexLe : List Int → List Int → Prop
  | [], _ => True
  | _ :: _, [] => False
  | a :: as, b :: bs => a < b ∨ (a = b ∧ lexLe as bs)
theorem upI_pw (n : Nat) : (upI 0 n).Pairwise (· < ·) := by
  unfold upI
  rw [List.pairwise_map]
  refine List.pairwise_lt_range.imp fun {a b} h => ?_
  omega
/-! the state at the start -/
variable {as : List Int}
end Lm


/-! the choices of a bucket; the order of all assignments -/
namespace Lm
open PySem PySem.Spec PyProof.Rows L2
variable {v o n : Int} {S : S3} {f g f1 f2 g1 g2 as : List Int}
/-! the order of all assignments -/
def lexLt : List Int → List Int → Prop
  | a :: as, b :: bs => a < b ∨ (a = b ∧ lexLt as bs)
  | _, _ => False
theorem lexLt.le : ∀ {as bs : List Int}, lexLt as bs → lexLe as bs
  | [], _, _ => trivial
  | _ :: _, [], h => h.elim
  | a :: as, b :: bs, h => by
    unfold lexLt at h
    unfold lexLe
    rcases h with h | ⟨e, h⟩
    · exact .inl h
    · exact .inr ⟨e, h.le⟩
theorem lexLt_app {xs ys : List Int} : ∀ {as bs : List Int}, lexLt as bs → lexLt (as ++ xs) (bs ++ ys)
  | [], _, h => h.elim
  | _ :: _, [], h => h.elim
  | a :: as, b :: bs, h => by
    unfold lexLt at h
    show lexLt (a :: (as ++ xs)) (b :: (bs ++ ys))
    unfold lexLt
    rcases h with h | ⟨e, h⟩
    · exact .inl h
    · exact .inr ⟨e, lexLt_app h⟩
theorem lexLt_last {x y : Int} (h : x < y) : ∀ {as : List Int}, lexLt (as ++ [x]) (as ++ [y])
  | [] => .inl h
  | a :: as => .inr ⟨rfl, lexLt_last h⟩
end Lm


/-! lists put together; promises about states, choices, and the least changes gone through -/
namespace Lm
open PySem PySem.Spec PyProof.Rows L2
section
variable {c : Ct} {H H' H0 H1 H2 H3 : Hp} {O : List Addr} {Γ Γ' Γ1 : List (Option Rs)}
variable {te ta tb tx : TE} {k ka kb : Kd} {d x y z : PyData} {i j : Int} {ds es : List PyData}
theorem flatAll_app (h : flatAll ds = true) (g : flatAll es = true) : flatAll (ds ++ es) = true := flatAll_mem fun d hd => by
  rcases List.mem_append.mp hd with w | w
  · exact flatAll_one h w
  · exact flatAll_one g w
end
theorem i_rowsB {c : Ct} {Γ : List (Option Rs)} {tl : TE} {k : Kd} {l : List (List Int)} (h : Ev c tl Γ k (.list (l.map tupD))) : EvI c (iSeq c.K tl) Γ false (l.map tupI) := by
  have := i_seqB h (flatD_rows _)
  rwa [List.map_map] at this
variable {v o n : Int} {S : S3} {f g as : List Int}
end Lm


/-! list.index, list.count, in: over data; the first change and its promises -/
namespace L2
open PySem PySem.Spec PyProof.Rows
section
variable {X : Cx}
end
end L2
namespace Lm
open PySem PySem.Spec PyProof.Rows L2
section
variable {X : Cx} {K : PySem.W.Frag} (hK : X.K = K)
include hK
end
section
variable {c : Ct} {H H' H0 H1 H2 H3 : Hp} {O : List Addr} {Γ Γ' Γ1 : List (Option Rs)}
variable {te ta tb tx : TE} {tr : TA} {k ka kb : Kd} {d x y z : PyData} {i j : Int} {ds es : List PyData}
end
/-! promises -/
variable {v o n : Int} {S : S3} {f g as : List Int}
end Lm
namespace Lm
open PySem PySem.Spec PyProof.Rows L2
end Lm
namespace Lm
open PySem PySem.Spec PyProof.Rows L2
variable {c : Ct} {Γ : List (Option Rs)} {ta tb : TE} {ka kb : Kd}
end Lm


/-! what lies between; all allocations; bridges -/
namespace Lm
open PySem PySem.Spec PyProof.Rows L2
variable {v b : Int} {f g h m x y : List Int}
/-! all allocations -/
def alcL (b : Int) : Nat → List (List Int)
  | 0 => [[]]
  | n + 1 => (alcL b n).flatMap fun r => (upI 0 (b - r.sum + 1).toNat).map fun x => r ++ [x]
theorem mem_alcL (hb : 0 ≤ b) : ∀ (n : Nat) (r : List Int), r ∈ alcL b n ↔ r.length = n ∧ (∀ x ∈ r, 0 ≤ x) ∧ r.sum ≤ b
  | 0, r => by
    constructor
    · intro h
      have : r = [] := by simpa [alcL] using h
      subst this
      exact ⟨rfl, fun _ h => (nomatch h), by simpa using hb⟩
    · rintro ⟨h, _⟩
      rw [List.eq_nil_of_length_eq_zero h]
      simp [alcL]
  | n + 1, r => by
    unfold alcL
    rw [List.mem_flatMap]
    constructor
    · rintro ⟨q, hq, h⟩
      obtain ⟨x, hx, rfl⟩ := List.mem_map.mp h
      obtain ⟨h1, h2, h3⟩ := (mem_alcL hb n q).mp hq
      have rx := mem_upI.mp hx
      refine ⟨by simp [h1], fun y hy => ?_, ?_⟩
      · rcases List.mem_append.mp hy with w | w
        · exact h2 y w
        · rw [List.mem_singleton.mp w]; exact rx.1
      · rw [List.sum_append]
        simp
        omega
    · rintro ⟨h1, h2, h3⟩
      have hne : r ≠ [] := fun z => by rw [z] at h1; simp at h1
      have e := List.dropLast_concat_getLast hne
      have s : r.dropLast.sum + r.getLast hne = r.sum := by
        have := congrArg List.sum e
        rw [List.sum_append] at this
        simpa using this
      have g0 := h2 _ (List.getLast_mem hne)
      have dn : ∀ x ∈ r.dropLast, 0 ≤ x := fun x hx => h2 x (List.dropLast_subset r hx)
      refine ⟨r.dropLast, (mem_alcL hb n _).mpr ⟨by rw [List.length_dropLast]; omega, dn, by omega⟩, List.mem_map.mpr ⟨r.getLast hne, mem_upI.mpr ?_, e⟩⟩
      omega
theorem alcL_pw (b : Int) : ∀ n, (alcL b n).Pairwise lexLt
  | 0 => List.pairwise_singleton ..
  | n + 1 => by
    unfold alcL
    rw [List.pairwise_flatMap]
    refine ⟨fun r _ => ?_, (alcL_pw b n).imp fun {a b} h x hx y hy => ?_⟩
    · rw [List.pairwise_map]
      exact (upI_pw _).imp fun h => lexLt_last h
    · obtain ⟨i, _, rfl⟩ := List.mem_map.mp hx
      obtain ⟨j, _, rfl⟩ := List.mem_map.mp hy
      exact lexLt_app h
theorem len_flatMap_le {α β : Type} {f : α → List β} {k : Nat} : ∀ {l : List α}, (∀ a ∈ l, (f a).length ≤ k) → (l.flatMap f).length ≤ l.length * k
  | [], _ => by simp
  | a :: l, h => by
    have h1 := h a (by simp)
    have h2 := len_flatMap_le (l := l) fun b hb => h b (by simp [hb])
    rw [List.flatMap_cons, List.length_append, List.length_cons, Nat.add_mul]
    omega
theorem alcL_len (hb : 0 ≤ b) : ∀ n, (alcL b n).length ≤ (b + 1).toNat ^ n
  | 0 => by simp [alcL]
  | n + 1 => by
    have ih := alcL_len hb n
    have := len_flatMap_le (l := alcL b n) (f := fun r => (upI 0 (b - r.sum + 1).toNat).map fun x => r ++ [x]) (k := (b + 1).toNat) fun r hr => by
      have h := (mem_alcL hb n r).mp hr
      have := sum_nn h.2.1
      simp [upI]
      omega
    rw [Nat.pow_succ]
    exact Nat.le_trans this (Nat.mul_le_mul_right _ ih)
def alcF (b : Int) (n : Nat) : List (List Int) := (alcL b n).filter fun r => decide (r.sum = b)
theorem mem_alcF (hb : 0 ≤ b) (hv : 0 ≤ v) {r : List Int} : r ∈ alcF b v.toNat ↔ Alc r v b := by
  unfold alcF
  rw [List.mem_filter, mem_alcL hb, decide_eq_true_iff]
  constructor
  · rintro ⟨⟨h1, h2, h3⟩, h4⟩
    exact ⟨by omega, h4, h2⟩
  · intro h
    exact ⟨⟨by have := h.len; omega, h.nn, by rw [h.sum]; exact Int.le_refl _⟩, h.sum⟩
end Lm


/-! all ways on: by number, their numbers, the next one -/
namespace Lm
open PySem PySem.Spec PyProof.Rows L2
variable {v o n : Int} {S : S3} {f g : List Int}
/-! by number -/
/-! the number -/
/-! the next one -/
theorem sum_le_pt : ∀ {as bs : List Int}, as.length = bs.length → (∀ j, j < as.length → as.getD j 0 ≤ bs.getD j 0) → as.sum ≤ bs.sum
  | [], [], _, _ => Int.le_refl _
  | a :: as, b :: bs, hl, h => by
    have h0 := h 0 (by simp)
    have := sum_le_pt (as := as) (bs := bs) (by simpa using hl) fun j hj => h (j + 1) (by simpa using hj)
    rw [List.sum_cons, List.sum_cons]
    have h0' : a ≤ b := h0
    omega
  | [], _ :: _, h, _ => by simp at h
  | _ :: _, [], h, _ => by simp at h
theorem St.ok (h : St v S f) (h20 : f.length ≤ 20) (h5 : v ≤ 5) : StOk S.c S.l S.e := by
  have cl := h.cl
  have ll := h.ll
  have el := h.el
  have cg : ∀ j, j < S.c.length → S.c.getD j 0 = f.count (j : Int) := fun j hj => by
    have := h.cs (j : Int) (by omega)
    unfold gI at this
    rwa [Int.toNat_natCast] at this
  have cs : S.c.sum = f.length := by
    have e : S.c = (upI 0 v.toNat).map fun i => (f.count i : Int) := by
      apply List.ext_getElem
      · simp [upI]; omega
      · intro i h1 h2
        have := cg i h1
        rw [gd_lt h1] at this
        rw [this]
        simp [upI]
    rw [e]
    exact count_sum v.toNat f fun n hn => by have := h.rng n hn; omega
  refine ⟨by omega, by omega, by omega, fun p hp => ?_, h.enn, ?_⟩
  · obtain ⟨i, hi, rfl⟩ := List.getElem_of_mem hp
    have i1 : i < S.c.length := by simp at hi; omega
    have i2 : i < S.l.length := by omega
    rw [List.getElem_zip]
    have a1 := cg i i1
    have a2 := h.ls (i : Int) (by omega)
    unfold gI at a2
    rw [Int.toNat_natCast, gd_lt i2] at a2
    rw [gd_lt i1] at a1
    have a3 : f.count (i : Int) ≤ f.length := List.count_le_length
    show 0 ≤ S.l[i] ∧ S.l[i] ≤ S.c[i] ∧ S.c[i] ≤ 20
    omega
  · rw [← h.sum]
    have := sum_le_pt (as := S.l) (bs := S.c) (by omega) fun j hj => by
      have a2 := h.ls (j : Int) (by omega)
      unfold gI at a2
      rw [Int.toNat_natCast] at a2
      have := cg j (by omega)
      omega
    omega
end Lm


/-! list(zip(a, b)), a and b tuples -/
namespace PySem.F
end PySem.F
namespace Lm
open PySem PySem.Spec PyProof.Rows L2
section
variable {prog : Program} {w : World} {A : Around} {E : Value → Shared → Prop} {s : Shared}
end
section
variable {prog : Program} {w : World} {A : Around} {R : Result → Shared → Prop}
end
section
variable {prog : Program} {w : World} {A : Around} {E : Value → Shared → Prop} {s : Shared}
end
end Lm
namespace Lm
open PySem PySem.Spec PyProof.Rows L2
section
variable {X : Cx} {K : PySem.W.Frag} (hK : X.K = K)
include hK
end
section
variable {c : Ct} {H H' : Hp} {Γ : List (Option Rs)} {tr : TA} {ds es : List PyData} {kv : Bool}
end
end Lm


/-! slices of tuples or lists, a range kept in a name, enumerate of a new list -/
namespace Lm
open PySem PySem.Spec PyProof.Rows L2
def rSlU (K : PySem.W.Frag) : V → Option Int → Option Int → Hp → VK → Prop := fun x lo hi H Q => rSlN K x lo hi H Q ∨ rSlL K x lo hi H Q
section
variable {X : Cx} {tg : Expr}
end
section
variable {X : Cx} {K : PySem.W.Frag} (hK : X.K = K)
include hK
theorem k_slU : SlR X (rSlU K) := by
  subst hK
  intro pins s σ H x v vl vu lo hi sl Q I rx hs pl pu h
  rcases h with h | h
  · exact sl_tupN pins s σ H x v vl vu lo hi sl Q I rx hs pl pu h
  · exact sl_list pins s σ H x v vl vu lo hi sl Q I rx hs pl pu h
end
section
variable {c : Ct} {H H' H0 H1 H2 H3 : Hp} {O : List Addr} {Γ Γ' Γ1 : List (Option Rs)}
variable {te ta tb tx : TE} {tl th : TO} {k ka kb : Kd} {d x y z : PyData} {i j : Int} {a b : Bool} {ds es : List PyData} {u : TS} {P : Out → Prop} {n : Nat} {kv : Bool} {tr : TA}
/-- a slice of a list: a new list -/
theorem e_slL {lo hi : Option Int} (h : Ev c te Γ k (.list ds)) (h1 : Eo c tl Γ lo) (h2 : Eo c th Γ hi) (hf : flatAll ds = true) : Ev c (tSl (rSlU c.K) te tl th) Γ .o (.list (cutD ds lo hi)) := fun H0 O H σ e Q q =>
  h H0 O H σ e _ fun v H1 r1 s1 => h1 H0 O H1 σ (e.on r1) _ fun H2 r2 => h2 H0 O H2 σ ((e.on r1).on r2) _ fun H3 r3 => .inr <| by
    have r : Rr c H H3 := (r1.tr r2).tr r3
    obtain ⟨p, xs, rfl, _, s, al⟩ := (Res.bo e (Res.on e r1 (r2.tr r3) s1)).lst'
    refine ⟨p, xs, rfl, s, fun p' hp => ?_⟩
    have sm : Same H3 (upd H3 p' (.lst (cutV xs lo hi))) := fun b u z => by rw [upd_ne (ne_of_none z hp)]; exact z
    refine q _ _ (r.tr (Rr.same sm)) ⟨[p'], .lst upd_same (FoAll.leaves ?_ (al.cut.same sm)), by simp, fun b hb => ?_⟩
    · exact flatAll_mem fun d hd => flatAll_one hf (List.mem_of_mem_drop (List.mem_of_mem_take hd))
    · cases List.mem_singleton.mp hb
      exact r.back e.jH hp
theorem i_enumLO (h : Ev c te Γ k (.list ds)) (hk : k ≠ .b) : EvI c (iEnumA c.K (tCons te tNil)) Γ true (enumI ds) := fun H0 O H σ e R q =>
  h H0 O H σ e _ fun v H1 r s => by
    obtain ⟨p, xs, rfl, kp, sl, al⟩ := (Res.frozen e r s hk).lst'
    exact ⟨p, xs, rfl, .inl ⟨mns_same.seq sl, q _ H1 r (enum_core (e.on r).j (walk_enum.mono (fun H h => h.lst kp sl) fun _ _ _ _ _ _ y => y) al (.inl rfl))⟩⟩
end
end Lm


/-! series of allocations: their steps, losses, turns -/
namespace Lm
open PySem PySem.Spec PyProof.Rows L2
structure Ser (A : List (List Int)) (v b : Int) : Prop where
  l1 : 1 ≤ A.length
  l2 : A.length ≤ 10
  alc : ∀ a ∈ A, Alc a v b
  v1 : 1 ≤ v
  v5 : v ≤ 5
  b20 : b ≤ 20
variable {A : List (List Int)} {v b : Int}
theorem Ser.len (h : Ser A v b) : ∀ a ∈ A, a.length = v.toNat := fun a ha => by have := (h.alc a ha).len; omega
end Lm


/-! series: the promises -/
namespace Lm
open PySem PySem.Spec PyProof.Rows L2
section
variable {c : Ct} {H H' H0 H1 H2 H3 : Hp} {O : List Addr} {Γ Γ' Γ1 : List (Option Rs)}
variable {te ta tb tx : TE} {k ka kb : Kd} {d x y z : PyData} {ds es : List PyData} {u : TS} {P : Out → Prop} {n : Nat}
end
theorem fl_rows (A : List (List Int)) : flatAll (A.map tupD) = true := flatAll_mem fun d hd => by
  obtain ⟨r, _, rfl⟩ := List.mem_map.mp hd
  exact flatT r
end Lm
namespace Lm
open PySem PySem.Spec PyProof.Rows L2
theorem i_enumL' {c : Ct} {Γ : List (Option Rs)} {te : TE} {k : Kd} {ds : List PyData} {items : List Im} (h : Ev c te Γ k (.list ds)) (hk : k ≠ .b) (e : enumI ds = items) : EvI c (iEnumA c.K (tCons te tNil)) Γ true items := e ▸ i_enumLO h hk
end Lm
namespace Lm
open PySem PySem.Spec PyProof.Rows L2
end Lm
namespace Lm
open PySem PySem.Spec PyProof.Rows L2
end Lm
namespace Lm
open PySem PySem.Spec PyProof.Rows L2
end Lm


/-! lists that hold lists of one's own; any item of a list handed back; forms of any data -/
namespace Lm
open PySem PySem.Spec PyProof.Rows L2
section
variable {c : Ct} {H H' H0 H1 H2 H3 : Hp} {O : List Addr} {Γ Γ' Γ1 : List (Option Rs)}
variable {te ta tb tx : TE} {k ka kb kx : Kd} {d x y z : PyData} {ds es : List PyData} {u : TS} {P : Out → Prop} {n : Nat} {tr : TA} {i : Int}
end
/-- each value once -/
def dd : List Int → List Int
  | [] => []
  | n :: l => if n ∈ l then dd l else n :: dd l
theorem dd_self : ∀ {l : List Int}, l.Nodup → dd l = l
  | [], _ => rfl
  | n :: l, h => by
    have h' := List.nodup_cons.mp h
    unfold dd
    rw [if_neg h'.1, dd_self h'.2]
def ddN : PyData → Nat
  | .tuple ds => (dd (ds.map Lm.intD)).length
  | _ => 0
def isOrdB (x : PyData) (m : Int) : Bool := areInts x 0 (m - 1) && (decide ((lenT x : Int) = m) && decide ((ddN x : Int) = m))
theorem ordB_ints (ns : List Int) (m : Int) : isOrdB (.tuple (ns.map .int)) m = (areInts (.tuple (ns.map .int)) 0 (m - 1) && (decide ((ns.length : Int) = m) && decide (((dd ns).length : Int) = m))) := by
  have e : (ns.map PyData.int).map Lm.intD = ns := by
    rw [List.map_map]
    exact List.map_id ns
  unfold isOrdB
  rw [lenT_ints]
  show (_ && (_ && decide (((dd ((ns.map PyData.int).map Lm.intD)).length : Int) = m))) = _
  rw [e]
theorem IsOrd.isB {ns : List Int} {m : Int} (h : IsOrd ns m) : isOrdB (.tuple (ns.map .int)) m = true := by
  rw [ordB_ints, areInts_of fun n hn => ⟨(h.rng n hn).1, by have := (h.rng n hn).2; omega⟩, dd_self h.nd, h.len]
  simp
end Lm
namespace Lm
open PySem PySem.Spec PyProof.Rows L2
section
variable {c : Ct} {Γ : List (Option Rs)} {t u w : TS} {P : Out → Prop}
end
end Lm
namespace Lm
open PySem PySem.Spec PyProof.Rows L2
end Lm


/-! __init__ of an exception class two below ValueError: super().__init__(..) and what stands behind it -/
namespace PySem.W
open PySem PySem.Calls PyProof.Rows PyProof.V PySem.Spec
end PySem.W
namespace Lm
open PySem PySem.Spec PyProof.Rows L2
end Lm


/-! tuple * int, any int from 0 on -/
namespace L2
open PySem PySem.Spec PyProof.Rows
end L2
namespace Lm
open PySem PySem.Spec PyProof.Rows L2
section
variable {X : Cx}
end
end Lm
namespace Lm
open PySem PySem.Spec PyProof.Rows L2
section
variable {X : Cx} {K : PySem.W.Frag} (hK : X.K = K)
include hK
end
section
variable {c : Ct} {Γ : List (Option Rs)} {ta tb : TE} {ka kb : Kd} {ds : List PyData} {i : Int}
end
end Lm


/-! intervals: one variant after another -/
namespace Lm
open PySem PySem.Spec PyProof.Rows L2
/-- the assignment by intervals -/
def runL (as os : List Int) : List Int := os.flatMap fun o => List.replicate (gI as o).toNat o
theorem runL_cons {as os : List Int} {o : Int} : runL as (o :: os) = List.replicate (gI as o).toNat o ++ runL as os := rfl
def shL (as os : List Int) : List Int := os.map (gI as)
theorem gI_nn {as : List Int} (h : ∀ n ∈ as, 0 ≤ n) (o : Int) : 0 ≤ gI as o := by
  unfold gI
  rw [List.getD_eq_getElem?_getD]
  cases e : as[o.toNat]? with
  | none => simp
  | some x => simpa using h x (List.mem_of_getElem? e)
theorem runL_len {as : List Int} (h : ∀ n ∈ as, 0 ≤ n) : ∀ os : List Int, ((runL as os).length : Int) = (shL as os).sum
  | [] => rfl
  | o :: os => by
    have := runL_len h os
    have := gI_nn h o
    rw [runL_cons, List.length_append, List.length_replicate]
    simp only [shL, List.map_cons, List.sum_cons] at *
    omega
theorem shL_sum {as os : List Int} {v b : Int} (h : Alc as v b) (o : IsOrd os v) : (shL as os).sum = b := by
  have hl : os.length = as.length := by have := h.len; have := o.len; omega
  have p : (shL as (upI 0 os.length)).sum = (shL as os).sum := perm_sum (o.perm.map _)
  rw [← p, ← h.sum, ← sum_range (ns := as), hl]
  unfold shL upI gI
  rw [List.map_map]
  congr 1
  apply List.map_congr_left
  intro j hj
  show as.getD (0 + (j : Int)).toNat 0 = as.getD j 0
  rw [Int.zero_add, Int.toNat_natCast]
theorem runL_length {as os : List Int} {v b : Int} (h : Alc as v b) (o : IsOrd os v) : ((runL as os).length : Int) = b := by
  rw [runL_len h.nn, shL_sum h o]
/-! promises -/
end Lm


/-! readings that the intervals want -/
namespace Lm
open PySem PySem.Spec PyProof.Rows L2
theorem cutD_last {α : Type} {ds : List α} : cutD ds none (some (-1)) = ds.dropLast := by
  show (ds.drop 0).take ((if (-1 : Int) < 0 then ((-1 : Int) + (ds.length : Int)).toNat else min (-1 : Int).toNat ds.length) - 0) = ds.dropLast
  rw [if_pos (by decide), List.drop_zero, List.dropLast_eq_take]
  congr 1
  omega
theorem Asg.up {ns : List Int} {v w : Int} (h : Asg ns v) (hw : v ≤ w) : Asg ns w := ⟨h.len, fun n hn => ⟨(h.rng n hn).1, by have := (h.rng n hn).2; omega⟩⟩
section
variable {c : Ct} {H H' H0 H1 H2 H3 : Hp} {O : List Addr} {Γ Γ' Γ1 : List (Option Rs)}
variable {te ta tb tx ty : TE} {k ka kb kc : Kd} {d x y z : PyData}
end
end Lm


/-! all assignments of an allocation, in order; the one whose places ascend -/
namespace Lm
open PySem PySem.Spec PyProof.Rows L2
theorem nodup_sub {α : Type} [DecidableEq α] : ∀ {l m : List α}, l.Nodup → (∀ x ∈ l, x ∈ m) → l.length ≤ m.length
  | [], _, _, _ => Nat.zero_le _
  | a :: l, m, nd, h => by
    have nd' := List.nodup_cons.mp nd
    have ha := h a (by simp)
    have ih := nodup_sub (m := m.erase a) nd'.2 fun x hx => (List.mem_erase_of_ne (fun z => nd'.1 (by rw [← z]; exact hx))).mpr (h x (by simp [hx]))
    rw [List.length_erase_of_mem ha] at ih
    have := List.length_pos_of_mem ha
    simp only [List.length_cons]; omega
theorem perm_of_count {r m : List Int} (hc : ∀ x, r.count x ≤ m.count x) (hl : m.length ≤ r.length) : r.Perm m := by
  induction r generalizing m with
  | nil =>
    have : m = [] := List.eq_nil_of_length_eq_zero (by simpa using hl)
    rw [this]
  | cons a r ih =>
    have ha : a ∈ m := by
      have := hc a
      rw [List.count_cons_self] at this
      exact List.count_pos_iff.mp (by omega)
    refine (List.Perm.cons a (ih (m := m.erase a) (fun x => ?_) ?_)).trans (List.perm_cons_erase ha).symm
    · have h1 := hc x
      rw [List.count_erase]
      by_cases e : a = x
      · subst e
        rw [List.count_cons_self] at h1
        simp; omega
      · rw [List.count_cons_of_ne e] at h1
        rw [if_neg (by simpa using e)]; omega
    · rw [List.length_erase_of_mem ha]
      simp only [List.length_cons] at hl; omega
/-- what may come behind r -/
def nxtA (as r : List Int) : List Int := (upI 0 as.length).filter fun x => decide ((r.count x : Int) < gI as x)
def asgN (as : List Int) : Nat → List (List Int)
  | 0 => [[]]
  | n + 1 => (asgN as n).flatMap fun r => (nxtA as r).map fun x => r ++ [x]
theorem mem_asgN {as : List Int} (nn : ∀ n ∈ as, 0 ≤ n) : ∀ (n : Nat) (r : List Int), r ∈ asgN as n ↔ r.length = n ∧ (∀ x ∈ r, 0 ≤ x ∧ x < as.length) ∧ ∀ x, (r.count x : Int) ≤ gI as x
  | 0, r => by
    constructor
    · intro h
      have : r = [] := by simpa [asgN] using h
      subst this
      exact ⟨rfl, fun _ h => (nomatch h), fun x => by have := gI_nn nn x; simpa using this⟩
    · rintro ⟨h, _⟩
      rw [List.eq_nil_of_length_eq_zero h]
      simp [asgN]
  | n + 1, r => by
    unfold asgN
    rw [List.mem_flatMap]
    constructor
    · rintro ⟨q, hq, h⟩
      obtain ⟨x, hx, rfl⟩ := List.mem_map.mp h
      obtain ⟨h1, h2, h3⟩ := (mem_asgN nn n q).mp hq
      obtain ⟨hx1, hx2⟩ := List.mem_filter.mp hx
      have hx3 := of_decide_eq_true hx2
      have hx4 := mem_upI.mp hx1
      refine ⟨by simp [h1], fun y hy => ?_, fun y => ?_⟩
      · rcases List.mem_append.mp hy with w | w
        · exact h2 y w
        · rw [List.mem_singleton.mp w]; exact hx4
      · rw [List.count_append]
        by_cases e : x = y
        · subst e
          simp only [List.count_cons_self, List.count_nil]; omega
        · rw [List.count_cons_of_ne e, List.count_nil]
          exact h3 y
    · rintro ⟨h1, h2, h3⟩
      have hne : r ≠ [] := fun z => by rw [z] at h1; simp at h1
      have el := List.dropLast_concat_getLast hne
      obtain ⟨q, eq⟩ : ∃ q, q = r.dropLast := ⟨_, rfl⟩
      obtain ⟨x, ex⟩ : ∃ x, x = r.getLast hne := ⟨_, rfl⟩
      rw [← eq, ← ex] at el
      have cx : ∀ y, r.count y = q.count y + [x].count y := fun y => by rw [← el, List.count_append]
      have xr : x ∈ r := by rw [← el]; simp
      refine ⟨q, (mem_asgN nn n q).mpr ⟨by rw [eq, List.length_dropLast]; omega, fun y hy => h2 y (by rw [← el]; simp [hy]), fun y => by have := h3 y; have := cx y; omega⟩, List.mem_map.mpr ⟨x, List.mem_filter.mpr ⟨mem_upI.mpr (h2 x xr), decide_eq_true ?_⟩, el⟩⟩
      have a1 := h3 x
      have a2 := cx x
      rw [List.count_cons_self, List.count_nil] at a2
      omega
/-- the places that ascend -/
theorem runL_count {as : List Int} (nn : ∀ n ∈ as, 0 ≤ n) : ∀ {os : List Int}, os.Nodup → ∀ o, ((runL as os).count o : Int) = if o ∈ os then gI as o else 0
  | [], _, o => by simp [runL]
  | p :: os, nd, o => by
    have nd' := List.nodup_cons.mp nd
    have ih := runL_count nn nd'.2 o
    have g0 := gI_nn nn o
    rw [runL_cons, List.count_append, List.count_replicate, Int.natCast_add, ih]
    by_cases e : p = o
    · subst e
      rw [if_neg nd'.1, if_pos (by simp), if_pos (by simp)]; omega
    · rw [if_neg (by simpa using e), Int.natCast_zero, Int.zero_add]
      by_cases m : o ∈ os
      · rw [if_pos m, if_pos (by simp [m])]
      · rw [if_neg m, if_neg (fun z => by rcases List.mem_cons.mp z with w | w; exact e w.symm; exact m w)]
section
variable {c : Ct} {Γ : List (Option Rs)} {te : TE} {k : Kd}
end
end Lm


/-! t[::-1] of a tuple -/
namespace HT
open PySem PySem.W PySem.Calls PyProof.Rows
end HT
namespace Lm
open PySem PySem.Spec PyProof.Rows L2
section
variable {prog : Program} {w : World} {A : Around} {E : Value → Shared → Prop} {s : Shared}
end
section
variable {c : Ct} {Γ : List (Option Rs)} {te : TE} {ds : List PyData}
end
end Lm


/-! intervals: bounds of their churn, and when nothing is wasted -/
namespace Lm
open PySem PySem.Spec PyProof.Rows L2
variable {as cs os : List Int} {v b : Int}
theorem runL_counts (h : Alc as v b) (o : IsOrd os v) : countsI (runL as os) v = as := by
  have hl := h.len
  apply List.ext_getElem
  · simp [countsI, upI]; omega
  · intro j h1 h2
    have hj : (j : Int) < v := by omega
    have e := countsI_get (ns := runL as os) hj
    rw [List.getD_eq_getElem?_getD, List.getElem?_eq_getElem h1] at e
    have e' : (countsI (runL as os) v)[j] = ((runL as os).count (j : Int) : Int) := e
    rw [e', runL_count h.nn o.nd, if_pos (o.mem (by omega) hj)]
    simp [gI, h2]
/-! the other bound -/
/-! both ways, and backwards -/
/-! when nothing is wasted -/
end Lm


/-! zip of two new lists, list + list of new ones; the intervals' ends -/
namespace Lm
open PySem PySem.Spec PyProof.Rows L2
section
variable {c : Ct} {H H' H0 H1 H2 H3 : Hp} {O : List Addr} {Γ Γ' Γ1 : List (Option Rs)}
variable {te ta tb tx ty : TE} {k ka kb kc : Kd} {d x y z : PyData} {ds es : List PyData}
theorem walk_zipLs {K : PySem.W.Frag} {p q : Addr} {xs ys : List V} {n : Nat} (hn : n = min xs.length ys.length) : Walk (Itz K p q) n (fun H => SqL K H p xs ∧ SqL K H q ys) (YPair (fun i => xs[i]?) (fun i => ys[i]?)) where
  goes := fun i _ hi w => ⟨xs, ys, xs[i]'(by omega), ys[i]'(by omega), w.1, w.2, List.getElem?_eq_getElem (by omega), List.getElem?_eq_getElem (by omega)⟩
  stops := fun _ w => ⟨xs, ys, w.1, w.2, by omega⟩
  yields := fun i H v H' _ w ⟨T, x, z, h1, h2, h3, h4, h5⟩ => ⟨T, x, z, h1, h2, h3, h4 xs w.1, h5 ys w.2⟩
/-- a new list + a new list -/
theorem e_catL (ha : Ev c ta Γ .o (.list ds)) (hds : flatAll ds = true) (hb : Ev c tb Γ .o (.list es)) (hes : flatAll es = true) (hl : ds.length + es.length ≤ 1000000) : Ev c (tOp (rAddA c.K) ta tb) Γ .o (.list (ds ++ es)) := fun H0 O H σ e Q q =>
  ha H0 O H σ e _ fun v H1 r1 s1 => hb H0 O H1 σ (e.on r1) _ fun u H2 r2 s2 => by
    obtain ⟨f1, o1, n1, w1⟩ : Res c O H H2 v (.list ds) .o := Res.on e r1 r2 s1
    obtain ⟨f2, o2, n2, w2⟩ : Res c O H1 H2 u (.list es) .o := s2
    obtain ⟨p, xs, g, rfl, rfl, hp, fa⟩ := o1.list'
    obtain ⟨b, zs, g', rfl, rfl, hb', fb⟩ := o2.list'
    obtain ⟨_, al⟩ := fa.flat0 hds
    obtain ⟨_, bl⟩ := fb.flat0 hes
    refine .inr (.inr ⟨p, b, xs, zs, rfl, rfl, hp, hb', by rw [al.len, bl.len]; exact sizeOk hl, fun p' hp' => ?_⟩)
    have sm : Same H2 (upd H2 p' (.lst (xs ++ zs))) := fun b o z => by rw [upd_ne (ne_of_none z hp')]; exact z
    have r : Rr c H H2 := r1.tr r2
    exact q _ _ (r.tr (Rr.same sm)) ⟨[p'], .lst upd_same (FoAll.leaves (flatAll_app hds hes) ((al.app bl).same sm)), by simp, fun a ha => by
      cases List.mem_singleton.mp ha
      exact r.back e.jH hp'⟩
end
end Lm


/-! the first history: each step's first change is the least one -/
namespace Lm
open PySem PySem.Spec PyProof.Rows L2
variable {v b : Int} {A T : List (List Int)} {as f r : List Int} {n : Nat}
theorem asgN_cnt (h : Alc as v b) (hr : r ∈ asgN as b.toNat) : (r.length : Int) = b ∧ (∀ x ∈ r, 0 ≤ x ∧ x < v) ∧ countsI r v = as := by
  obtain ⟨h1, h2, h3⟩ := (mem_asgN h.nn _ r).mp hr
  have hl := h.len
  have o := ord_upI (m := v) (by omega)
  have rl := runL_length h o
  have b0 : 0 ≤ b := by rw [← h.sum]; exact sum_nn h.nn
  have cle : ∀ x, r.count x ≤ (runL as (upI 0 v.toNat)).count x := fun x => by
    have c1 := runL_count h.nn o.nd x
    by_cases m : x ∈ upI 0 v.toNat
    · rw [if_pos m] at c1
      have := h3 x
      omega
    · rw [List.count_eq_zero_of_not_mem fun z => m (o.mem (h2 x z).1 (by have := (h2 x z).2; omega))]; omega
  have sp : r.Perm (runL as (upI 0 v.toNat)) := perm_of_count cle (by omega)
  refine ⟨by omega, fun x hx => ⟨(h2 x hx).1, by have := (h2 x hx).2; omega⟩, ?_⟩
  rw [← runL_counts h o]
  unfold countsI
  apply List.map_congr_left
  intro i _
  rw [sp.count_eq]
section
variable {c : Ct} {H H' H0 H1 H2 H3 : Hp} {O : List Addr} {Γ Γ' Γ1 : List (Option Rs)} {te : TE} {k : Kd} {i : Int}
end
/-! of lists -/
end Lm


/-! itertools.combinations(range(n), k), walked -/
namespace CmbK
open PySem PySem.Spec PyProof.Rows L2
end CmbK


/-! itertools.combinations(range(n), k): made, its turns -/
namespace CmbK
open PySem PySem.Spec PyProof.Rows L2
end CmbK


/-! itertools.combinations: its turns -/
namespace CmbK
open PySem PySem.Spec PyProof.Rows L2
section
variable {prog : Program} {w : World} {A : Around} {E : Value → Shared → Prop} {s : Shared} {it T : Addr} {bf : Value} {ks : List Nat} {xs : Array Value}
end
end CmbK


/-! the places that combinations hands out -/
namespace Lm
open PySem PySem.Spec PyProof.Rows L2 CmbK
def cmbL : List Nat → Nat → List (List Nat)
  | _, 0 => [[]]
  | [], _ + 1 => []
  | a :: l, k + 1 => (cmbL l k).map (a :: ·) ++ cmbL l (k + 1)
def cmbs (n k : Nat) : List (List Nat) := cmbL (List.range n) k
end Lm


/-! families of shares: the promises -/
namespace Lm
open PySem PySem.Spec PyProof.Rows L2
/-- a share of each variant but the control -/
structure Shr (r : List Int) (v : Int) : Prop where
  len : (r.length : Int) = v - 1
  nn : ∀ x ∈ r, 0 ≤ x
  sum : r.sum ≤ 10
theorem Shr.le {r : List Int} {v : Int} (h : Shr r v) : ∀ x ∈ r, x ≤ 10 := fun x hx => by
  have := le_sum h.nn x hx
  have := h.sum
  omega
end Lm


/-! == of plain data, forms of data, a drawn test behind a plain one -/
namespace Lm
open PySem PySem.Spec PyProof.Rows L2
mutual
/-- no truth values, no dicts: == is being equal -/
def plD : PyData → Bool
  | .none => true
  | .int _ => true
  | .str _ => true
  | .list ds => plAll ds
  | .tuple ds => plAll ds
  | _ => false
def plAll : List PyData → Bool
  | [] => true
  | d :: ds => plD d && plAll ds
end
mutual
theorem eqv_pl : ∀ {x y : PyData}, plD x = true → plD y = true → (PyData.eqv x y = true ↔ x = y)
  | .none, .none, _, _ => by simp [PyData.eqv]
  | .int i, .int j, _, _ => by simp [PyData.eqv]
  | .str i, .str j, _, _ => by simp [PyData.eqv]
  | .list xs, .list ys, h, g => by
    have := eqv_plA (xs := xs) (ys := ys) h g
    simp only [PyData.eqv, this, PyData.list.injEq]
  | .tuple xs, .tuple ys, h, g => by
    have := eqv_plA (xs := xs) (ys := ys) h g
    simp only [PyData.eqv, this, PyData.tuple.injEq]
  | .none, .int _, _, _ | .none, .str _, _, _ | .none, .list _, _, _ | .none, .tuple _, _, _ => by simp [PyData.eqv]
  | .int _, .none, _, _ | .int _, .str _, _, _ | .int _, .list _, _, _ | .int _, .tuple _, _, _ => by simp [PyData.eqv]
  | .str _, .none, _, _ | .str _, .int _, _, _ | .str _, .list _, _, _ | .str _, .tuple _, _, _ => by simp [PyData.eqv]
  | .list _, .none, _, _ | .list _, .int _, _, _ | .list _, .str _, _, _ | .list _, .tuple _, _, _ => by simp [PyData.eqv]
  | .tuple _, .none, _, _ | .tuple _, .int _, _, _ | .tuple _, .str _, _, _ | .tuple _, .list _, _, _ => by simp [PyData.eqv]
  | .bool _, _, h, _ | .dict _, _, h, _ => by simp [plD] at h
  | .none, .bool _, _, g | .none, .dict _, _, g | .int _, .bool _, _, g | .int _, .dict _, _, g | .str _, .bool _, _, g | .str _, .dict _, _, g | .list _, .bool _, _, g | .list _, .dict _, _, g | .tuple _, .bool _, _, g | .tuple _, .dict _, _, g => by simp [plD] at g
theorem eqv_plA : ∀ {xs ys : List PyData}, plAll xs = true → plAll ys = true → (PyData.eqvAll xs ys = true ↔ xs = ys)
  | [], [], _, _ => by simp [PyData.eqvAll]
  | [], _ :: _, _, _ => by simp [PyData.eqvAll]
  | _ :: _, [], _, _ => by simp [PyData.eqvAll]
  | x :: xs, y :: ys, h, g => by
    have h' : (plD x && plAll xs) = true := h
    have g' : (plD y && plAll ys) = true := g
    rw [Bool.and_eq_true] at h' g'
    have e1 := eqv_pl (x := x) (y := y) h'.1 g'.1
    have e2 := eqv_plA (xs := xs) (ys := ys) h'.2 g'.2
    simp only [PyData.eqvAll, Bool.and_eq_true, e1, e2, List.cons.injEq]
end
/-- data of a depth of at most n, all of it to be compared -/
def Sh (n : Nat) (d : PyData) : Prop := d.canLay0 = true ∧ d.depth ≤ n
theorem Sh.ok {n : Nat} {d : PyData} (h : Sh n d) (hn : n ≤ 64) : SeqAt.shaped d = true := by
  unfold SeqAt.shaped
  rw [h.1, decide_eq_true (by have := h.2; omega)]
  rfl
theorem sh_int {i : Int} : Sh n (.int i) := ⟨rfl, by simp [PyData.depth]⟩
theorem sh_all {n : Nat} : ∀ {ds : List PyData}, (∀ d ∈ ds, Sh n d) → PyData.canLayAll0 ds = true ∧ PyData.depthAll ds ≤ n
  | [], _ => ⟨rfl, by simp [PyData.depthAll]⟩
  | d :: ds, h => by
    have a := h d (by simp)
    have b := sh_all (ds := ds) fun e he => h e (List.mem_cons_of_mem _ he)
    refine ⟨?_, ?_⟩
    · show (d.canLay0 && PyData.canLayAll0 ds) = true
      rw [a.1, b.1]; rfl
    · show max d.depth (PyData.depthAll ds) ≤ n
      have := a.2; have := b.2; omega
theorem sh_tup {n : Nat} {ds : List PyData} (h : ∀ d ∈ ds, Sh n d) : Sh (n + 1) (.tuple ds) := by
  have := sh_all h
  exact ⟨this.1, by show PyData.depthAll ds + 1 ≤ _; omega⟩
theorem Sh.up {n m : Nat} {d : PyData} (h : Sh n d) (hn : n ≤ m) : Sh m d := ⟨h.1, Nat.le_trans h.2 hn⟩
section
variable {c : Ct} {Γ : List (Option Rs)} {ta tb : TE} {tt tu : TT} {ka kb : Kd} {d e : PyData} {a : Bool}
end
end Lm


/-! in and not in over tuples or lists of data -/
namespace Lm
open PySem PySem.Spec PyProof.Rows L2
section
variable {X : Cx}
variable {K : PySem.W.Frag} (hK : X.K = K)
include hK
end
section
variable {c : Ct} {Γ : List (Option Rs)} {ta tb : TE} {ka kb : Kd} {d : PyData} {ds : List PyData} {r : List Int} {P : List (List Int)} {neg : Bool}
end
section
variable {c : Ct} {Γ : List (Option Rs)} {tr : TA} {kv : Bool} {n m lo : Nat} {a : Im}
theorem i_rngN (h : EvA c tr Γ kv [.int (n : Int)]) (hn : n ≤ 1000000) : EvI c (iRng1 tr) Γ true ((List.range n).map fun (i : Nat) => Im.d (.int (i : Int))) := by
  have := i_rng1 h (by omega) (by omega)
  rw [Int.toNat_natCast] at this
  unfold upI at this
  rw [List.map_map] at this
  refine (congrArg (EvI c (iRng1 tr) Γ true) (List.map_congr_left fun i _ => ?_)).mp this
  show Im.d (.int (0 + (i : Int))) = _
  rw [Int.zero_add]
theorem rngN_at (h : ((List.range n).map fun (i : Nat) => Im.d (.int (i : Int)))[m]? = some a) : m < n ∧ a = .d (.int (m : Int)) := by
  rw [List.getElem?_map] at h
  cases q : (List.range n)[m]? with
  | none => rw [q] at h; cases h
  | some k =>
    rw [q] at h
    have hm := (List.getElem?_eq_some_iff.mp q).1
    rw [List.length_range] at hm
    rw [List.getElem?_range hm] at q
    cases Option.some.inj q
    exact ⟨hm, (Option.some.inj h).symm⟩
end
/-! ### plans -/
/-! bad triples -/
def castL (ks : List Nat) : List Int := ks.map fun (i : Nat) => (i : Int)
end Lm


/-! rules: the mathematics -/
namespace Lm
open PySem PySem.Spec PyProof.Rows L2
abbrev Pr := List Int × List Int
/-- an allocation and an assignment of it -/
structure OkP (p : Pr) (v b : Int) : Prop where
  alc : Alc p.1 v b
  len : (p.2.length : Int) = b
  rng : ∀ x ∈ p.2, 0 ≤ x ∧ x < v
  cnt : countsI p.2 v = p.1
theorem OkP.asg {p : Pr} {v b : Int} (h : OkP p v b) (hb : b ≤ 20) : Asg p.2 v := ⟨by have := h.len; omega, h.rng⟩
/-! the first of three places -/
/-! lists give the variants their buckets -/
theorem getD_setI {r : List Int} {i j : Nat} {x : Int} (hi : i < r.length) : (r.set i x).getD j 0 = if i = j then x else r.getD j 0 := by
  simp only [List.getD_eq_getElem?_getD, List.getElem?_set]
  split
  · rename_i h
    subst h
    simp [hi]
  · rfl
theorem gL_mem {Ls : List (List Int)} {i : Nat} (h : i < Ls.length) : Ls.getD i [] ∈ Ls := by
  rw [List.getD_eq_getElem?_getD, List.getElem?_eq_getElem h]
  exact List.getElem_mem h
end Lm


/-! drawn assignments of an allocation; drawn tests -/
namespace Lm
open PySem PySem.Spec PyProof.Rows L2
structure Drw (as : List Int) (lf acc : List Int) (n : Nat) : Prop where
  len : lf.length = as.length
  al : acc.length = n
  nn : ∀ x ∈ lf, 0 ≤ x
  rng : ∀ x ∈ acc, 0 ≤ x ∧ x < (as.length : Int)
  cnt : ∀ i < as.length, (acc.count (i : Int) : Int) + lf.getD i 0 = as.getD i 0
  sum : lf.sum + (n : Int) = as.sum
theorem sum_setX : ∀ {l : List Int} {i : Nat} {x : Int}, i < l.length → (l.set i x).sum = l.sum - l.getD i 0 + x
  | [], _, _, h => by simp at h
  | a :: l, 0, x, _ => by simp only [List.set_cons_zero, List.sum_cons, List.getD_cons_zero]; omega
  | a :: l, i + 1, x, h => by
    have := sum_setX (l := l) (i := i) (x := x) (by simpa using h)
    simp only [List.set_cons_succ, List.sum_cons, List.getD_cons_succ]
    omega
theorem Drw.step {as lf acc : List Int} {n i : Nat} (h : Drw as lf acc n) (hi : i < as.length) (hp : 0 < lf.getD i 0) : Drw as (lf.set i (lf.getD i 0 - 1)) (acc ++ [(i : Int)]) (n + 1) := by
  have hl := h.len
  refine ⟨by simpa using hl, by simp [h.al], fun x hx => ?_, fun x hx => ?_, fun j hj => ?_, ?_⟩
  · rcases List.mem_or_eq_of_mem_set hx with w | w
    · exact h.nn x w
    · omega
  · rcases List.mem_append.mp hx with w | w
    · exact h.rng x w
    · rw [List.mem_singleton.mp w]; omega
  · have hc := h.cnt j hj
    rw [getD_setI (by omega), List.count_append]
    by_cases e : i = j
    · subst e
      have c1 : List.count (i : Int) [(i : Int)] = 1 := by simp
      rw [if_pos rfl, c1]
      omega
    · have c1 : List.count (j : Int) [(i : Int)] = 0 := List.count_eq_zero_of_not_mem (by simp; omega)
      rw [if_neg e, c1]
      omega
  · rw [sum_setX (by omega)]
    have := h.sum
    omega
theorem Drw.pos {as lf acc : List Int} {n : Nat} (h : Drw as lf acc n) (hn : (n : Int) < as.sum) : 0 < ((List.range as.length).filter fun i => decide (0 < lf.getD i 0)).length := by
  cases q : (List.range as.length).filter fun i => decide (0 < lf.getD i 0) with
  | cons => simp
  | nil =>
    exfalso
    have z : ∀ x ∈ lf, x = 0 := fun x hx => by
      obtain ⟨i, hi⟩ := List.getElem?_of_mem hx
      have il : i < lf.length := (List.getElem?_eq_some_iff.mp hi).1
      have e : lf.getD i 0 = x := by rw [List.getD_eq_getElem?_getD, hi]; rfl
      have m := List.filter_eq_nil_iff.mp q i (List.mem_range.mpr (by have := h.len; omega))
      have := h.nn x hx
      rw [e] at m
      simp at m
      omega
    have s : lf.sum = 0 := by
      clear q
      have : ∀ l : List Int, (∀ x ∈ l, x = 0) → l.sum = 0 := by
        intro l
        induction l with
        | nil => intro _; rfl
        | cons a l ih => intro w; rw [List.sum_cons, w a (by simp), ih fun x hx => w x (by simp [hx])]; rfl
      exact this lf z
    have := h.sum
    omega
theorem Drw.fin {as lf acc : List Int} {v b : Int} (ha : Alc as v b) (hv : 0 ≤ v) (h : Drw as lf acc b.toNat) (hb : 0 ≤ b) : OkP (as, acc) v b := by
  have al := ha.len
  have rg : ∀ x ∈ acc, 0 ≤ x ∧ x < v := fun x hx => by have := h.rng x hx; omega
  refine ⟨ha, by show (acc.length : Int) = b; rw [h.al]; omega, rg, ?_⟩
  have s0 : lf.sum = 0 := by have := h.sum; have := ha.sum; omega
  apply List.ext_getElem
  · rw [countsI_len]; show v.toNat = as.length; omega
  · intro i h1 h2
    have h2' : i < as.length := h2
    have e1 : (countsI acc v).getD i 0 = (acc.count (i : Int) : Int) := countsI_get (by omega)
    have e2 := h.cnt i h2'
    have z : lf.getD i 0 = 0 := by
      have m := gd_mem (l := lf) (j := i) (by have := h.len; omega)
      have := h.nn _ m
      have := le_sum h.nn _ m
      omega
    rw [List.getD_eq_getElem?_getD, List.getElem?_eq_getElem h1] at e1
    rw [z, List.getD_eq_getElem?_getD, List.getElem?_eq_getElem h2'] at e2
    simp at e1 e2
    show (countsI acc v)[i] = as[i]
    rw [e1]; exact e2
section
variable {c : Ct} {Γ : List (Option Rs)} {te ta tb : TE} {tt tu : TT} {k ka kb : Kd} {a : Bool} {P : Out → Prop} {n : Nat}
theorem n_eqB {Qa Qb : Int → Prop} (ha : EvN c ta Γ ka (SomeI Qa)) (hb : EvN c tb Γ kb (SomeI Qb)) : EvN c (tOp (rEqA c.K) ta tb) Γ .v (fun d => ∃ w : Bool, d = .bool w) :=
  n_bin ha hb fun x y ⟨m, hm, _⟩ ⟨n, hn, _⟩ => ⟨.bool (decide (V.int m = V.int n)), ⟨_, rfl⟩, fun H O v u Q bv bu q => by
    subst hm; subst hn
    rw [bv.int', bu.int']
    exact .inl ⟨rfl, q _ H Rr.rf (.bl _)⟩⟩
end
end Lm


/-! two places exchanged; drawn changes; which pairs a table keeps -/
namespace Lm
open PySem PySem.Spec PyProof.Rows L2
section
variable {c : Ct} {H H0 : Hp} {O : List Addr} {σ : L2.St} {Γ : List (Option Rs)} {te ta tb tx ty : TE} {k ka kb kc : Kd} {P : Out → Prop} {n m : Nat} {i j x y : Int} {ns : List Int} {u : TS}
end
/-- drawn steps from one assignment to one of another allocation -/
structure Chg (A B g : List Int) (v : Int) (n : Nat) (t : Int) : Prop where
  rng : ∀ x ∈ g, 0 ≤ x ∧ x < v
  len : (g.length : Int) = B.sum
  up : ∀ x : Nat, (x : Int) < v → A.getD x 0 ≤ B.getD x 0 → (g.count (x : Int) : Int) ≤ B.getD x 0
  dn : ∀ x : Nat, (x : Int) < v → B.getD x 0 < A.getD x 0 → (g.count (x : Int) : Int) = if x < n then B.getD x 0 else if x = n then A.getD x 0 - t else A.getD x 0
theorem sum_counts {g : List Int} {v : Int} (hr : ∀ x ∈ g, 0 ≤ x ∧ x < v) (hv : 0 ≤ v) : (countsI g v).sum = g.length := (alc_counts hr hv).sum
theorem sum_at_le : ∀ {xs ys : List Int}, xs.length = ys.length → (∀ i < xs.length, xs.getD i 0 ≤ ys.getD i 0) → xs.sum ≤ ys.sum ∧ (xs.sum = ys.sum → xs = ys)
  | [], [], _, _ => ⟨Int.le_refl _, fun _ => rfl⟩
  | x :: xs, y :: ys, h, g => by
    have ih := sum_at_le (xs := xs) (ys := ys) (by simpa using h) fun i hi => by have := g (i + 1) (by simpa using hi); simpa using this
    have g0 := g 0 (by simp)
    simp at g0
    simp only [List.sum_cons]
    refine ⟨by omega, fun e => ?_⟩
    rw [ih.2 (by omega), show x = y by omega]
  | [], _ :: _, h, _ => by simp at h
  | _ :: _, [], h, _ => by simp at h
section
variable {A B g : List Int} {v b : Int} {n : Nat} {t : Int}
theorem Chg.step (h : Chg A B g v n t) (ht : 0 ≤ t ∧ t < A.getD n 0 - B.getD n 0) (hn : (n : Int) < v) {p x : Nat} (hp : p < g.length) (hg : g.getD p 0 = (n : Int)) (hx : (x : Int) < v) (hw : (g.count (x : Int) : Int) < B.getD x 0) : Chg A B (g.set p (x : Int)) v n (t + 1) := by
  have cn := h.dn n hn (by omega)
  rw [if_neg (by omega), if_pos rfl] at cn
  have nx : x ≠ n := fun e => by subst e; omega
  have e1 : g[p] = (n : Int) := by rw [← hg]; simp [List.getD_eq_getElem?_getD, hp]
  have pos : 1 ≤ g.count (n : Int) := List.count_pos_iff.mpr (e1 ▸ List.getElem_mem hp)
  have cnt : ∀ y : Nat, ((g.set p (x : Int)).count (y : Int) : Int) = (g.count (y : Int) : Int) - (if y = n then 1 else 0) + (if y = x then 1 else 0) := fun y => by
    rw [List.count_set hp, e1]
    by_cases h1 : y = n
    · subst h1
      have : ¬ (x : Int) = (y : Int) := by omega
      simp [this, show ¬ y = x by omega]
      omega
    · by_cases h2 : y = x
      · subst h2
        have : ¬ (n : Int) = (y : Int) := by omega
        simp [this, h1]
      · have a1 : ¬ (n : Int) = (y : Int) := by omega
        have a2 : ¬ (x : Int) = (y : Int) := by omega
        simp [a1, a2, h1, h2]
  refine ⟨fun z hz => ?_, by simpa using h.len, fun y hy hd => ?_, fun y hy hd => ?_⟩
  · rcases List.mem_or_eq_of_mem_set hz with w | w
    · exact h.rng z w
    · omega
  · have := h.up y hy hd
    rw [cnt y]
    by_cases h1 : y = n
    · subst h1; omega
    · by_cases h2 : y = x
      · subst h2; rw [if_neg h1, if_pos rfl]; omega
      · rw [if_neg h1, if_neg h2]; omega
  · have hc := h.dn y hy hd
    have y2 : y ≠ x := fun e => by
      subst e
      rw [hc] at hw
      by_cases q : y < n
      · rw [if_pos q] at hw; omega
      · rw [if_neg q, if_neg nx] at hw; omega
    rw [cnt y, hc, if_neg y2]
    by_cases h1 : y = n
    · subst h1
      rw [if_neg (by omega), if_pos rfl, if_pos rfl, if_neg (by omega), if_pos rfl]
      omega
    · rw [if_neg h1]
      simp only [if_neg h1]
      omega
theorem Chg.fin (hB : Alc B v b) (hv : 0 ≤ v) (h : Chg A B g v v.toNat 0) : OkP (B, g) v b := by
  have bl := hB.len
  refine ⟨hB, by show (g.length : Int) = b; rw [h.len, hB.sum], h.rng, ?_⟩
  have le : ∀ i < (countsI g v).length, (countsI g v).getD i 0 ≤ B.getD i 0 := fun i hi => by
    rw [countsI_len] at hi
    rw [countsI_get (by omega)]
    by_cases q : B.getD i 0 < A.getD i 0
    · rw [h.dn i (by omega) q, if_pos hi]
      exact Int.le_refl _
    · exact h.up i (by omega) (by omega)
  exact (sum_at_le (by rw [countsI_len]; omega) le).2 (by rw [sum_counts h.rng hv, h.len])
end
/-! which pairs a table keeps -/
/-- a table of a plan -/
structure Tbl (T A : List (List Int)) (v b : Int) : Prop where
  ser : Ser A v b
  len : T.length = A.length
  ok : ∀ i < A.length, OkP (A.getD i [], T.getD i []) v b
end Lm


/-! which buckets fit: the mathematics -/
namespace Lm
open PySem PySem.Spec PyProof.Rows L2
abbrev Pk := Nat → Bool
/-- all its own are among the chosen -/
def insP (p : Pk) (own : List Int) : Bool := own.all fun y => p y.toNat
def rmP (as : List Int) (p : Pk) : Int := ((List.range as.length).map fun x => if p x then as.getD x 0 else 0).sum
def cfP (C : List (List Int)) (p : Pk) : Int := ((C.filter (insP p)).length : Nat)
def Hall (as : List Int) (C : List (List Int)) : Prop := ∀ p : Pk, cfP C p ≤ rmP as p
def dcI (x : Int) (as : List Int) : List Int := as.set x.toNat (as.getD x.toNat 0 - 1)
theorem dcI_len {x : Int} {as : List Int} : (dcI x as).length = as.length := by simp [dcI]
def b1 (b : Bool) : Int := if b then 1 else 0
theorem cf_cons {own : List Int} {C : List (List Int)} {p : Pk} : cfP (own :: C) p = cfP C p + b1 (insP p own) := by
  unfold cfP b1
  rw [List.filter_cons]
  split <;> simp
theorem cf_nn {C : List (List Int)} {p : Pk} : 0 ≤ cfP C p := by unfold cfP; omega
theorem sum_upd {g h : Nat → Int} : ∀ {n x : Nat}, x < n → (∀ i < n, i ≠ x → h i = g i) → ((List.range n).map h).sum = ((List.range n).map g).sum - g x + h x
  | n + 1, x, hx, e => by
    rw [List.range_succ, List.map_append, List.map_append, List.sum_append, List.sum_append]
    simp only [List.map_cons, List.map_nil, List.sum_cons, List.sum_nil]
    by_cases q : x = n
    · subst q
      have : (List.range x).map h = (List.range x).map g := List.map_congr_left fun i hi => e i (by have := List.mem_range.mp hi; omega) (by have := List.mem_range.mp hi; omega)
      rw [this]
      omega
    · have := sum_upd (n := n) (x := x) (g := g) (h := h) (by omega) fun i hi hn => e i (by omega) hn
      rw [this, e n (by omega) (fun z => q z.symm)]
      omega
theorem rm_dec {x : Int} {as : List Int} (hx : 0 ≤ x ∧ x < as.length) (p : Pk) : rmP (dcI x as) p = rmP as p - b1 (p x.toNat) := by
  unfold rmP
  rw [dcI_len]
  have xl : x.toNat < as.length := by omega
  have s : ∀ i, (dcI x as).getD i 0 = if x.toNat = i then as.getD x.toNat 0 - 1 else as.getD i 0 := fun i => getD_setI xl
  rw [sum_upd (g := fun i => if p i then as.getD i 0 else 0) xl fun i hi hn => by
    have e : (dcI x as).getD i 0 = as.getD i 0 := by rw [s, if_neg (fun z => hn z.symm)]
    rw [e]]
  rw [s, if_pos rfl]
  unfold b1
  split <;> omega
theorem rm_or (as : List Int) (p q : Pk) : rmP as (fun x => p x || q x) + rmP as (fun x => p x && q x) = rmP as p + rmP as q := by
  have e : ∀ (a c : Bool) (n : Int), (if (a || c) = true then n else 0) + (if (a && c) = true then n else 0) = (if a = true then n else 0) + (if c = true then n else 0) := fun a c n => by cases a <;> cases c <;> simp
  unfold rmP
  generalize List.range as.length = l
  induction l with
  | nil => rfl
  | cons x l ih =>
    have h1 := e (p x) (q x) (as.getD x 0)
    simp only [List.map_cons, List.sum_cons]
    simp only at ih
    omega
theorem ins_or {p q : Pk} {own : List Int} : insP p own = true → insP (fun x => p x || q x) own = true := fun h => by
  unfold insP at *
  rw [List.all_eq_true] at *
  intro y hy
  show (p y.toNat || q y.toNat) = true
  rw [h y hy]; rfl
theorem ins_or' {p q : Pk} {own : List Int} : insP q own = true → insP (fun x => p x || q x) own = true := fun h => by
  unfold insP at *
  rw [List.all_eq_true] at *
  intro y hy
  show (p y.toNat || q y.toNat) = true
  rw [h y hy, Bool.or_true]
theorem ins_and {p q : Pk} {own : List Int} : insP (fun x => p x && q x) own = (insP p own && insP q own) := by
  unfold insP
  induction own with
  | nil => rfl
  | cons y l ih =>
    simp only [List.all_cons, ih]
    cases p y.toNat <;> cases q y.toNat <;> simp
theorem cf_or (C : List (List Int)) (p q : Pk) : cfP C p + cfP C q ≤ cfP C (fun x => p x || q x) + cfP C (fun x => p x && q x) := by
  induction C with
  | nil => simp [cfP]
  | cons own C ih =>
    rw [cf_cons, cf_cons, cf_cons, cf_cons, ins_and]
    have h1 := ins_or (p := p) (q := q) (own := own)
    have h2 := ins_or' (p := p) (q := q) (own := own)
    unfold b1
    cases a : insP p own <;> cases c : insP q own <;> cases d : insP (fun x => p x || q x) own <;> simp_all <;> omega
/-- with such a bucket there is more in the two together -/
theorem cf_or1 {own : List Int} {C : List (List Int)} {p q : Pk} (h1 : insP p own = false) (h2 : insP q own = false) (h3 : insP (fun x => p x || q x) own = true) :
    cfP (own :: C) p + cfP (own :: C) q + 1 ≤ cfP (own :: C) (fun x => p x || q x) + cfP (own :: C) (fun x => p x && q x) := by
  have := cf_or C p q
  rw [cf_cons, cf_cons, cf_cons, cf_cons, ins_and, h1, h2, h3]
  simp only [b1, Bool.false_and, if_true, if_false, Bool.false_eq_true]
  omega
theorem hall_back {as own : List Int} {C : List (List Int)} {x : Int} (hx : x ∈ own) (x0 : 0 ≤ x ∧ x < as.length) (h : Hall (dcI x as) C) : Hall as (own :: C) := fun p => by
  have := h p
  rw [rm_dec x0] at this
  rw [cf_cons]
  unfold b1 at *
  cases q : insP p own with
  | false => split at this <;> simp only [if_false, Bool.false_eq_true] <;> omega
  | true =>
    unfold insP at q
    rw [List.all_eq_true.mp q x hx] at this
    simp only [if_true] at *
    omega
theorem hall_step {as own : List Int} {C : List (List Int)} (hr : ∀ y ∈ own, 0 ≤ y ∧ y < as.length) (h : Hall as (own :: C)) : ∃ x ∈ own, Hall (dcI x as) C := by
  refine Classical.byContradiction fun hc => ?_
  have bad : ∀ x ∈ own, ∃ p : Pk, p x.toNat = true ∧ insP p own = false ∧ cfP (own :: C) p = rmP as p := fun x hx => by
    refine Classical.byContradiction fun hn => hc ⟨x, hx, fun p => ?_⟩
    have hp := h p
    rw [rm_dec (hr x hx)]
    have hp' := hp
    rw [cf_cons] at hp
    unfold b1 at *
    cases q : insP p own with
    | true =>
      rw [q] at hp
      unfold insP at q
      rw [List.all_eq_true.mp q x hx]
      simp only [if_true] at *
      omega
    | false =>
      rw [q] at hp
      cases z : p x.toNat with
      | false => simp only [if_false, Bool.false_eq_true] at *; omega
      | true =>
        have ne : cfP (own :: C) p ≠ rmP as p := fun e => hn ⟨p, z, q, e⟩
        have e2 : cfP (own :: C) p = cfP C p := by rw [cf_cons, q]; simp [b1]
        simp only [if_true]
        omega
  have key : ∀ xs : List Int, (∀ x ∈ xs, x ∈ own) → ∃ U : Pk, insP U own = false ∧ (∀ x ∈ xs, U x.toNat = true) ∧ cfP (own :: C) U = rmP as U := by
    intro xs
    induction xs with
    | nil =>
      intro _
      have h0 := h fun _ => false
      have r0 : rmP as (fun _ => false) = 0 := by
        unfold rmP
        simp only [Bool.false_eq_true, if_false]
        exact sum_zeroN _
      have c0 := cf_nn (C := own :: C) (p := fun _ => false)
      have c1 := cf_nn (C := C) (p := fun _ => false)
      have hc0 := cf_cons (own := own) (C := C) (p := fun _ => false)
      refine ⟨fun _ => false, ?_, by simp, by omega⟩
      cases q : insP (fun _ => false) own with
      | false => rfl
      | true => rw [q] at hc0; simp only [b1, if_true] at hc0; omega
    | cons x xs ih =>
      intro hs
      obtain ⟨U, u1, u2, u3⟩ := ih fun y hy => hs y (by simp [hy])
      obtain ⟨p, p1, p2, p3⟩ := bad x (hs x (by simp))
      have hW := h fun y => U y || p y
      have hA := h fun y => U y && p y
      have ro := rm_or as U p
      refine ⟨fun y => U y || p y, ?_, fun y hy => ?_, ?_⟩
      · cases q : insP (fun y => U y || p y) own with
        | false => rfl
        | true =>
          have := cf_or1 (C := C) u1 p2 q
          omega
      · rcases List.mem_cons.mp hy with w | w
        · rw [w]; simp [p1]
        · simp [u2 y w]
      · have := cf_or (own :: C) U p
        omega
  obtain ⟨U, u1, u2, _⟩ := key own fun x hx => hx
  have : insP U own = true := by
    unfold insP
    rw [List.all_eq_true]
    exact u2
  rw [this] at u1
  cases u1
where sum_zeroN : ∀ l : List Nat, (l.map fun _ => (0 : Int)).sum = 0
  | [] => rfl
  | a :: l => by rw [List.map_cons, List.sum_cons, sum_zeroN l]; rfl
/-- each bucket has one of its own, and all shares are used up -/
def Fits : List Int → List (List Int) → List Int → Prop
  | as, [], [] => ∀ x ∈ as, x = 0
  | as, own :: C, x :: f => x ∈ own ∧ Fits (dcI x as) C f
  | _, _, _ => False
theorem sum_dcI {x : Int} {as : List Int} (hx : 0 ≤ x ∧ x < as.length) : (dcI x as).sum = as.sum - 1 := by
  unfold dcI
  rw [sum_setX (by omega)]
  omega
theorem rm_one {as : List Int} {x : Nat} (hx : x < as.length) : rmP as (fun y => decide (y = x)) = as.getD x 0 := by
  unfold rmP
  rw [sum_upd (g := fun _ => 0) hx fun i _ hn => by simp [hn], hall_step.sum_zeroN]
  simp
theorem hall_nn {as : List Int} {C : List (List Int)} (h : Hall as C) : ∀ x ∈ as, 0 ≤ x := fun x hx => by
  obtain ⟨i, hi⟩ := List.getElem?_of_mem hx
  have il := (List.getElem?_eq_some_iff.mp hi).1
  have := h fun y => decide (y = i)
  rw [rm_one il] at this
  have c := cf_nn (C := C) (p := fun y => decide (y = i))
  have e : as.getD i 0 = x := by rw [List.getD_eq_getElem?_getD, hi]; rfl
  omega
def Rng (C : List (List Int)) (n : Nat) : Prop := ∀ own ∈ C, ∀ y ∈ own, 0 ≤ y ∧ y < (n : Int)
theorem fit_hall : ∀ {C : List (List Int)} {as f : List Int}, Rng C as.length → Fits as C f → Hall as C
  | [], as, [], _, h => fun p => by
    have z : ∀ x ∈ as, x = 0 := h
    have e : rmP as p = 0 := by
      unfold rmP
      rw [List.map_congr_left (g := fun _ => (0 : Int)) fun i hi => by
        have : as.getD i 0 = 0 := z _ (gd_mem (List.mem_range.mp hi))
        rw [this]; split <;> rfl]
      exact hall_step.sum_zeroN _
    rw [e]
    simp [cfP]
  | own :: C, as, x :: f, hr, h => by
    obtain ⟨hx, hf⟩ := h
    exact hall_back hx (hr own (by simp) x hx) (fit_hall (by rw [dcI_len]; exact fun o ho => hr o (by simp [ho])) hf)
  | [], _, _ :: _, _, h => absurd h id
  | _ :: _, _, [], _, h => absurd h id
open Classical in
noncomputable def grd : List Int → List (List Int) → List Int
  | _, [] => []
  | as, own :: C => (own.filter fun x => decide (Hall (dcI x as) C)).headD 0 :: grd (dcI ((own.filter fun x => decide (Hall (dcI x as) C)).headD 0) as) C
theorem headF_mem {l : List Int} {p : Int → Bool} (h : ∃ x ∈ l, p x = true) : (l.filter p).headD 0 ∈ l ∧ p ((l.filter p).headD 0) = true := by
  obtain ⟨x, hx, hp⟩ := h
  have m : x ∈ l.filter p := List.mem_filter.mpr ⟨hx, hp⟩
  cases q : l.filter p with
  | nil => rw [q] at m; cases m
  | cons y r =>
    have : y ∈ l.filter p := by rw [q]; simp
    exact List.mem_filter.mp this
open Classical in
theorem grd_fit : ∀ {C : List (List Int)} {as : List Int}, Rng C as.length → Hall as C → as.sum = C.length → Fits as C (grd as C)
  | [], as, _, h, hs => fun x hx => by
    have nn := hall_nn h
    have := nn x hx
    have := le_sum nn x hx
    simp at hs
    omega
  | own :: C, as, hr, h, hs => by
    have ro := hr own (by simp)
    obtain ⟨x, hx, hh⟩ := hall_step ro h
    obtain ⟨m1, m2⟩ := headF_mem (l := own) (p := fun x => decide (Hall (dcI x as) C)) ⟨x, hx, decide_eq_true hh⟩
    have m2 := of_decide_eq_true m2
    refine ⟨m1, grd_fit (by rw [dcI_len]; exact fun o ho => hr o (by simp [ho])) m2 ?_⟩
    rw [sum_dcI (ro _ m1), hs]
    simp
end Lm


/-! which buckets fit: by all sets of variants -/
namespace Lm
open PySem PySem.Spec PyProof.Rows L2
theorem cmb_sub : ∀ {l : List Nat} {k : Nat} {s : List Nat}, s ∈ cmbL l k → s.Sublist l
  | _, 0, s, h => by
    have : s = [] := by simpa [cmbL] using h
    rw [this]
    exact List.nil_sublist _
  | [], k + 1, s, h => by simp [cmbL] at h
  | a :: l, k + 1, s, h => by
    rcases List.mem_append.mp h with w | w
    · obtain ⟨t, ht, rfl⟩ := List.mem_map.mp w
      exact (cmb_sub ht).cons_cons a
    · exact (cmb_sub w).cons a
theorem cmb_filter (p : Nat → Bool) : ∀ l : List Nat, l.filter p ∈ cmbL l (l.filter p).length
  | [] => by simp [cmbL]
  | a :: l => by
    have ih := cmb_filter p l
    rw [List.filter_cons]
    by_cases h : p a = true
    · rw [if_pos h, List.length_cons]
      exact List.mem_append_left _ (List.mem_map_of_mem ih)
    · rw [if_neg h]
      cases q : (l.filter p).length with
      | zero => rw [List.eq_nil_of_length_eq_zero q]; simp [cmbL]
      | succ k => rw [q] at ih; exact List.mem_append_right _ ih
/-- all sets of variants, the smaller ones first -/
def vsN (v : Nat) : List (List Nat) := (List.range (v + 1)).flatMap fun k => cmbs v k
theorem vs_sub {v : Nat} {s : List Nat} (h : s ∈ vsN v) : s.Sublist (List.range v) := by
  obtain ⟨k, _, hs⟩ := List.mem_flatMap.mp h
  exact cmb_sub hs
theorem vs_filter (v : Nat) (p : Nat → Bool) : (List.range v).filter p ∈ vsN v := by
  refine List.mem_flatMap.mpr ⟨((List.range v).filter p).length, List.mem_range.mpr ?_, cmb_filter p _⟩
  have := List.length_filter_le p (List.range v)
  rw [List.length_range] at this
  omega
def inS (s : List Nat) : Pk := fun x => decide (x ∈ s)
/-- what a set of variants has, and how many buckets need it -/
def roomI (as : List Int) (s : List Nat) : Int := (s.map fun x => as.getD x 0).sum
theorem sum_sub {g : Nat → Int} : ∀ {l s : List Nat}, s.Sublist l → l.Nodup → (s.map g).sum = (l.map fun x => if decide (x ∈ s) then g x else 0).sum
  | _, _, .slnil, _ => rfl
  | a :: l, s, .cons _ h, nd => by
    have na : a ∉ s := fun m => (List.nodup_cons.mp nd).1 (h.subset m)
    rw [List.map_cons, List.sum_cons, sum_sub h (List.nodup_cons.mp nd).2, decide_eq_false na]
    simp
  | a :: l, _ :: s, .cons_cons _ h, nd => by
    have nd' := List.nodup_cons.mp nd
    rw [List.map_cons, List.sum_cons, List.map_cons, List.sum_cons, sum_sub h nd'.2]
    have e : (l.map fun x => if decide (x ∈ s) then g x else 0) = l.map fun x => if decide (x ∈ a :: s) then g x else 0 := List.map_congr_left fun x hx => by
      have : x ≠ a := fun e => nd'.1 (e ▸ hx)
      simp [this]
    rw [e]
    simp
theorem room_rm {as : List Int} {s : List Nat} (h : s ∈ vsN as.length) : roomI as s = rmP as (inS s) := sum_sub (vs_sub h) List.nodup_range
theorem fits_iff : ∀ {C : List (List Int)} {as f : List Int}, Rng C as.length → (Fits as C f ↔ f.length = C.length ∧ (∀ i < f.length, f.getD i 0 ∈ C.getD i []) ∧ ∀ x < as.length, (f.count (x : Int) : Int) = as.getD x 0)
  | [], as, [], _ => by
    constructor
    · intro h
      exact ⟨rfl, by simp, fun x hx => by
        have h' : ∀ x ∈ as, x = 0 := h
        rw [h' _ (gd_mem hx)]; rfl⟩
    · rintro ⟨_, _, h⟩ x hx
      obtain ⟨i, hi⟩ := List.getElem?_of_mem hx
      have := h i (List.getElem?_eq_some_iff.mp hi).1
      rw [List.getD_eq_getElem?_getD, hi] at this
      simpa using this.symm
  | own :: C, as, x :: f, hr => by
    have rC : Rng C (dcI x as).length := by rw [dcI_len]; exact fun o ho => hr o (by simp [ho])
    have ih := fits_iff (as := dcI x as) (f := f) rC
    have cnt : ∀ (x0 : 0 ≤ x ∧ x < as.length) (y : Nat), y < as.length → (((x :: f).count (y : Int) : Int) = as.getD y 0 ↔ (f.count (y : Int) : Int) = (dcI x as).getD y 0) := fun x0 y hy => by
      have e : (dcI x as).getD y 0 = if x.toNat = y then as.getD x.toNat 0 - 1 else as.getD y 0 := getD_setI (by omega)
      rw [e, List.count_cons]
      by_cases w : x.toNat = y
      · subst w
        have : x = ((x.toNat : Nat) : Int) := by omega
        rw [if_pos rfl, if_pos (by rw [beq_iff_eq]; exact this)]
        omega
      · have : ¬ x = (y : Int) := by omega
        rw [if_neg w, if_neg (by simpa using this)]
        omega
    show x ∈ own ∧ Fits (dcI x as) C f ↔ _
    rw [ih, dcI_len]
    constructor
    · rintro ⟨hx, h1, h2, h3⟩
      have x0 := hr own (by simp) x hx
      refine ⟨by simp [h1], fun i hi => ?_, fun y hy => (cnt x0 y hy).mpr (h3 y hy)⟩
      cases i with
      | zero => exact hx
      | succ i => exact h2 i (by simpa using hi)
    · rintro ⟨h1, h2, h3⟩
      have hx : x ∈ own := h2 0 (by simp)
      have x0 := hr own (by simp) x hx
      exact ⟨hx, by simpa using h1, fun i hi => h2 (i + 1) (by simpa using hi), fun y hy => (cnt x0 y hy).mp (h3 y hy)⟩
  | [], _, _ :: _, _ => by simp [Fits]
  | _ :: _, _, [], _ => by simp [Fits]
end Lm


/-! which buckets fit: the promises -/
namespace Lm
open PySem PySem.Spec PyProof.Rows L2
structure Mns (C : List (List Int)) (n : Nat) : Prop where
  rng : Rng C n
  len : C.length ≤ 20
  own : ∀ own ∈ C, own.length ≤ 5
section
variable {c : Ct} {Γ : List (Option Rs)} {tl : TE} {k : Kd} {C : List (List Int)} {d : PyData}
end
end Lm


/-! shortages, and how rules go on -/
namespace Lm
open PySem PySem.Spec PyProof.Rows L2
/-- the first set of variants that is too small -/
def shS (as : List Int) (C : List (List Int)) : Option (List Nat) := (vsN as.length).find? fun s => decide (roomI as s < cfP C (inS s))
theorem sh_some {as : List Int} {C : List (List Int)} {s : List Nat} (h : shS as C = some s) : s ∈ vsN as.length ∧ roomI as s < cfP C (inS s) := by
  unfold shS at h
  have q := List.find?_some h
  exact ⟨List.mem_of_find?_eq_some h, by simpa using q⟩
section
variable {c : Ct} {Γ : List (Option Rs)} {tl tb : TE} {kb : Kd} {C : List (List Int)} {cd : PyData}
end
/-! rules -/
end Lm


/-! walks over zip of a list and a tuple; pairs that are drawn; forbidden pairs, pins, menus, bounds by levels -/
namespace Lm
open PySem PySem.Spec PyProof.Rows L2
section
variable {X : Cx} {K : PySem.W.Frag} (hK : X.K = K)
include hK
end
section
variable {c : Ct} {H H' H0 H1 H2 H3 : Hp} {O : List Addr} {Γ Γ' Γ1 : List (Option Rs)}
variable {te ta tb tx ty : TE} {k ka kb kc : Kd} {d x y z : PyData} {ds es : List PyData}
end
/-! ### mathematics -/
theorem code2 (x y : Int) : TS.code 1000 [x, y] = x * 1000 + y := by simp [TS.code]
/-- pairs of buckets and variants, ascending -/
structure Prd (F : List (List Int)) (v b : Nat) : Prop where
  row : ∀ r ∈ F, ∃ x y : Nat, r = [(x : Int), (y : Int)] ∧ x < b ∧ y < v
  asc : F.Pairwise fun a b => TS.code 1000 a < TS.code 1000 b
  len : F.length ≤ 36
theorem Prd.filter {F : List (List Int)} {v b : Nat} (h : Prd F v b) (p : List Int → Bool) : Prd (F.filter p) v b :=
  ⟨fun r hr => h.row r (List.mem_filter.mp hr).1, h.asc.filter _, Nat.le_trans (List.length_filter_le _ _) h.len⟩
/-- pins: of different buckets -/
structure Pin (P : List (List Int)) (v b : Nat) : Prop extends Prd P v b where
  fst : P.Pairwise fun p q => p.getD 0 0 < q.getD 0 0
def psL (as : List Int) (v : Int) (b : Nat) (C : List (List Int)) : List (List Int) := (allL v b).filter fun f => decide (countsI f v = as) && ((List.range b).map fun k => decide (f.getD k 0 ∈ C.getD k [])).all id
theorem mem_psL {as f : List Int} {v : Int} {b : Nat} {C : List (List Int)} (hv : 0 ≤ v) : f ∈ psL as v b C ↔ f.length = b ∧ (∀ x ∈ f, 0 ≤ x ∧ x < v) ∧ countsI f v = as ∧ ∀ k < b, f.getD k 0 ∈ C.getD k [] := by
  unfold psL
  rw [List.mem_filter, mem_allL hv, Bool.and_eq_true, List.all_map, List.all_eq_true]
  simp only [decide_eq_true_eq, List.mem_range, Function.comp, id]
  constructor
  · rintro ⟨⟨h1, h2⟩, h3, h4⟩; exact ⟨h1, h2, h3, h4⟩
  · rintro ⟨h1, h2, h3, h4⟩; exact ⟨⟨h1, h2⟩, h3, h4⟩
def wrtI (h : Int) (ls : List Int) (y : Int) : Int := (if y = h then 1 else 0) - ls.getD y.toNat 0
def gw (own : List Int) (h : Int) (ls : List Int) : Int := mxL (own.map (wrtI h ls))
def gwS (C : List (List Int)) (f ls : List Int) : Int := ((C.zip f).map fun p => gw p.1 p.2 ls).sum
def mulI (a b : Int) : Int := a * b
theorem gw_ge {own ls : List Int} {h y : Int} (hy : y ∈ own) : wrtI h ls y ≤ gw own h ls := mxL_le _ (List.mem_map_of_mem hy)
/-- no row keeps more than the bound, less the levels it takes -/
theorem kept_le {ls : List Int} : ∀ {C : List (List Int)} {f r : List Int}, C.length = f.length → r.length = f.length → (∀ k < r.length, r.getD k 0 ∈ C.getD k []) →
    (f.length : Int) - zs ne1 f r ≤ gwS C f ls + (r.map fun y => ls.getD y.toNat 0).sum
  | [], [], [], _, _, _ => by simp [gwS, zs]
  | own :: C, h :: f, y :: r, h1, h2, hm => by
    have ih := kept_le (ls := ls) (C := C) (f := f) (r := r) (by simpa using h1) (by simpa using h2) fun k hk => by have := hm (k + 1) (by simpa using hk); simpa using this
    have m0 : y ∈ own := by have := hm 0 (by simp); simpa using this
    have g := gw_ge (ls := ls) (h := h) m0
    have e : gwS (own :: C) (h :: f) ls = gw own h ls + gwS C f ls := by simp [gwS]
    have en : ne1 h y = if h = y then 0 else 1 := rfl
    rw [zs_cons, e, en, List.map_cons, List.sum_cons, List.length_cons]
    unfold wrtI at g
    by_cases q : h = y
    · rw [if_pos q.symm] at g
      rw [if_pos q]
      omega
    · rw [if_neg (fun z => q z.symm)] at g
      rw [if_neg q]
      omega
  | [], _ :: _, _, h, _, _ => by simp at h
  | _ :: _, [], _, h, _, _ => by simp at h
  | _, [], _ :: _, _, h, _ => by simp at h
  | _, _ :: _, [], _, h, _ => by simp at h
theorem nil_sum {α : Type} : ∀ l : List α, (l.map fun _ => (0 : Int)).sum = 0
  | [] => rfl
  | _ :: l => by rw [List.map_cons, List.sum_cons, nil_sum l]; rfl
theorem pick_sum {g : Nat → Int} {x : Nat} : ∀ n : Nat, x < n → ((List.range n).map fun k => if k = x then g k else 0).sum = g x
  | 0, h => by omega
  | n + 1, h => by
    rw [List.range_succ, List.map_append, List.sum_append, List.map_singleton, List.sum_singleton]
    by_cases e : x = n
    · subst e
      have : ((List.range x).map fun k => if k = x then g k else 0) = (List.range x).map fun _ => (0 : Int) := List.map_congr_left fun k hk => if_neg (by have := List.mem_range.mp hk; omega)
      rw [this, if_pos rfl, nil_sum]
      omega
    · rw [pick_sum n (by omega), if_neg (fun z => e z.symm)]
      omega
/-- what the levels give in all -/
theorem lev_sum {ls : List Int} {v : Nat} (hl : ls.length = v) : ∀ {r : List Int}, (∀ x ∈ r, 0 ≤ x ∧ x < (v : Int)) → (r.map fun y => ls.getD y.toNat 0).sum = zs mulI (countsI r v) ls
  | [], _ => by
    unfold zs
    rw [countsI_len, Int.toNat_natCast]
    have : ((List.range v).map fun j => mulI ((countsI [] v).getD j 0) (ls.getD j 0)) = (List.range v).map fun _ => (0 : Int) := List.map_congr_left fun j hj => by
      rw [countsI_get (by have := List.mem_range.mp hj; omega)]
      simp [mulI]
    rw [this, nil_sum]
    rfl
  | y :: r, h => by
    have ih := lev_sum hl (r := r) fun x hx => h x (by simp [hx])
    obtain ⟨y0, y1⟩ := h y (by simp)
    obtain ⟨Y, rfl⟩ := Int.eq_ofNat_of_zero_le y0
    rw [List.map_cons, List.sum_cons, ih, Int.toNat_natCast]
    unfold zs
    rw [countsI_len, countsI_len, Int.toNat_natCast]
    have e : ∀ j ∈ List.range v, mulI ((countsI ((Y : Int) :: r) v).getD j 0) (ls.getD j 0) = (if j = Y then ls.getD j 0 else 0) + mulI ((countsI r v).getD j 0) (ls.getD j 0) := fun j hj => by
      have hj' : (j : Int) < v := by have := List.mem_range.mp hj; omega
      rw [countsI_get hj', countsI_get hj', List.count_cons]
      unfold mulI
      by_cases q : j = Y
      · subst q
        simp [Int.add_mul]
        omega
      · have : ¬ ((Y : Int) = (j : Int)) := by omega
        simp [q, this]
    rw [List.map_congr_left e]
    have add : ∀ (f g : Nat → Int) (l : List Nat), (l.map fun i => f i + g i).sum = (l.map f).sum + (l.map g).sum := fun f g l => by
      induction l with
      | nil => rfl
      | cons a l ih => rw [List.map_cons, List.sum_cons, List.map_cons, List.sum_cons, List.map_cons, List.sum_cons, ih]; omega
    rw [add, pick_sum (g := fun j => ls.getD j 0) v (by omega)]
/-- no possible assignment keeps more than the bound -/
theorem weak {as f r ls : List Int} {v b : Nat} {C : List (List Int)} (hC : C.length = b) (hf : f.length = b) (hl : ls.length = v) (hr : r ∈ psL as v b C) : [] ∉ C ∧ (b : Int) - zs ne1 f r ≤ zs mulI as ls + gwS C f ls := by
  obtain ⟨h1, h2, h3, h4⟩ := (mem_psL (by omega)).mp hr
  refine ⟨fun z => ?_, ?_⟩
  · obtain ⟨k, hk, e⟩ := List.getElem_of_mem z
    have := h4 k (by omega)
    rw [List.getD_eq_getElem?_getD, List.getD_eq_getElem?_getD, List.getElem?_eq_getElem hk, e] at this
    simp at this
  · have := kept_le (ls := ls) (C := C) (f := f) (r := r) (by omega) (by omega) fun k hk => h4 k (by omega)
    rw [lev_sum hl h2, h3] at this
    omega
end Lm


/-! forbidden pairs and pins that are drawn; promises -/
namespace Lm
open PySem PySem.Spec PyProof.Rows L2
structure PrdN (F : List (List Int)) (v n m : Nat) : Prop where
  row : ∀ r ∈ F, ∃ x y : Nat, r = [(x : Int), (y : Int)] ∧ y < v ∧ x * 1000 + y < n * 1000 + m
  asc : F.Pairwise fun a b => TS.code 1000 a < TS.code 1000 b
  len : F.length ≤ n * v + m
theorem PrdN.nil {v : Nat} : PrdN [] v 0 0 := ⟨by simp, List.Pairwise.nil, by simp⟩
theorem PrdN.fin {F : List (List Int)} {v b : Nat} (h : PrdN F v b 0) (hv : v ≤ 5) (hb : b ≤ 6) : Prd F v b :=
  ⟨fun r hr => let ⟨x, y, e, a, q⟩ := h.row r hr; ⟨x, y, e, by omega, a⟩, h.asc, by
    have h1 := h.len
    have h2 : b * v ≤ 6 * 5 := Nat.mul_le_mul hb hv
    omega⟩
structure PinN (P : List (List Int)) (v n : Nat) : Prop where
  row : ∀ r ∈ P, ∃ x y : Nat, r = [(x : Int), (y : Int)] ∧ x < n ∧ y < v
  fst : P.Pairwise fun p q => p.getD 0 0 < q.getD 0 0
  len : P.length ≤ n
theorem PinN.nil {v : Nat} : PinN [] v 0 := ⟨by simp, List.Pairwise.nil, by simp⟩
theorem PinN.fin {P : List (List Int)} {v b : Nat} (h : PinN P v b) (hv : v ≤ 5) (hb : b ≤ 6) : Pin P v b :=
  { row := h.row, fst := h.fst, len := by have := h.len; omega,
    asc := by
      refine List.Pairwise.imp_of_mem (fun {p q} hp hq w => ?_) h.fst
      obtain ⟨x, y, rfl, _, _⟩ := h.row p hp
      obtain ⟨x', y', rfl, _, _⟩ := h.row q hq
      rw [code2, code2]
      simp at w
      omega }
theorem Pin.nil {v b : Nat} : Pin [] v b := { row := by simp, fst := List.Pairwise.nil, len := by simp, asc := List.Pairwise.nil }
structure Exc (as f : List Int) (F P : List (List Int)) (v b : Nat) : Prop where
  v1 : 1 ≤ v
  v5 : v ≤ 5
  b6 : b ≤ 6
  asg : Asg f (v : Int)
  len : f.length = b
  alc : Alc as (v : Int) (b : Int)
  prd : Prd F v b
  pin : Pin P v b
end Lm


/-! lists that stay: displays of anything, put together, subscripts -/
namespace Lm
open PySem PySem.Spec PyProof.Rows L2
section
variable {X : Cx} {K : PySem.W.Frag} (hK : X.K = K)
include hK
end
section
variable {c : Ct} {Γ : List (Option Rs)} {te ta tb : TE} {tr : TA} {k ka kb : Kd} {d : PyData} {ds es : List PyData}
/-- a new list of things that stay -/
theorem newV {H0 H H2 : Hp} {O : List Addr} {σ : L2.St} {xs : List V} {p : Addr} (e : Env c H0 O H2 σ Γ) (al : BoAll c (mns H2 O) xs ds) (hp : H2 p = none) : Bo c (mns (upd H2 p (.lst xs)) O) (.ref p) (.list ds) := by
  have sm : Same H2 (upd H2 p (.lst xs)) := fun b o z => by rw [upd_ne (ne_of_none z hp)]; exact z
  have r4 : Rr c H2 (upd H2 p (.lst xs)) := Rr.same sm
  have no := new_notO e hp
  refine .lst (okA.fresh e.jH hp) (.inl ?_) (al.mono e.j (r4.mns e.j e.okO))
  left
  rw [mns_out no]
  exact upd_same
theorem n_ixLV {P : PyData → Prop} {Q : Int → Prop} (ha : Ev c ta Γ .v (.list ds)) (hb : EvN c tb Γ kb (SomeI Q)) (hr : ∀ i, Q i → ∃ d, atI ds i = some d ∧ P d) : EvN c (tOp (rIx c.K) ta tb) Γ .v P := fun H0 O H σ e Q' q =>
  ha H0 O H σ e _ fun v H1 r1 s1 => hb H0 O H1 σ (e.on r1) _ fun u y H2 ⟨i, hi, qi⟩ r2 s2 => by
    obtain ⟨d, he, pd⟩ := hr i qi
    subst hi
    have bv : Bo c (mns H2 O) v (.list ds) := Res.on (k := .v) e r1 r2 s1
    obtain ⟨p, xs, rfl, _, s, al⟩ := bv.lst'
    obtain ⟨x, hx, bx⟩ := atI_bo al he
    exact .inl ⟨p, xs, i, x, rfl, (Res.bo (e.on r1) s2).int', mns_same.seq s, hx, q x d H2 pd (r1.tr r2) bx⟩
end
end Lm


/-! possible assignments: which come first, what is none -/
namespace Lm
open PySem PySem.Spec PyProof.Rows L2
theorem mem_ps {as f : List Int} {v b : Nat} {C : List (List Int)} (al : as.length = v) (hC : C.length = b) (hr : Rng C v) : f ∈ psL as v b C ↔ Fits as C f := by
  rw [mem_psL (by omega), fits_iff (by rw [al]; exact hr), hC]
  have cnt : (countsI f v = as ↔ ∀ x < as.length, (f.count (x : Int) : Int) = as.getD x 0) := by
    constructor
    · intro h x hx
      rw [← h, countsI_get (by omega)]
    · intro h
      apply List.ext_getElem
      · rw [countsI_len]; omega
      · intro i h1 h2
        have e1 : (countsI f v).getD i 0 = (f.count (i : Int) : Int) := countsI_get (by omega)
        rw [h i h2] at e1
        simpa [List.getD_eq_getElem?_getD, h1, h2] using e1
  constructor
  · rintro ⟨h1, h2, h3, h4⟩
    exact ⟨h1, fun i hi => h4 i (by omega), cnt.mp h3⟩
  · rintro ⟨h1, h2, h3⟩
    refine ⟨h1, fun x hx => ?_, cnt.mpr h3, fun k hk => h2 k (by omega)⟩
    obtain ⟨i, hi⟩ := List.getElem?_of_mem hx
    have il := (List.getElem?_eq_some_iff.mp hi).1
    have m := h2 i il
    have fx : f.getD i 0 = x := by rw [List.getD_eq_getElem?_getD, hi]; rfl
    rw [fx] at m
    exact hr _ (gL_mem (by omega)) x m
end Lm


/-! xs[i] -= 1, xs a list of ints -/
namespace Lm
open PySem PySem.Spec PyProof.Rows L2
def rGetL (K : PySem.W.Frag) : V → V → Hp → VK → Prop := fun o i H Q => ∃ (p : Addr) (xs : List V) (m : Nat) (v : V), o = .ref p ∧ i = .int (m : Int) ∧ SqL K H p xs ∧ xs[m]? = some v ∧ Q v H
theorem get_list {X : Cx} : PGet X (rGetL X.K) := by
  intro pins s σ H o i ov iv Q I ro ri h
  obtain ⟨p, xs, m, v, rfl, rfl, hq, hv, q⟩ := h
  cases ro
  obtain ⟨t, rfl⟩ := ri
  obtain ⟨its, r, pl, hz⟩ := I.list hq
  obtain ⟨w, ew, rw'⟩ := r.get hv
  have hn := line63
  have hl := r.length
  have hm : m < xs.length := (List.getElem?_eq_some_iff.mp hv).1
  exact wpAny_getItem_list pl.isList (by omega) (by omega) (by simpa using ew) ⟨v, H, I, rw', q⟩
section
variable {X : Cx} {K : PySem.W.Frag} (hK : X.K = K)
include hK
theorem k_getL : PGet X (rGetL K) := hK ▸ get_list
end
section
variable {c : Ct} {Γ : List (Option Rs)} {te ta : TE} {k ka : Kd} {n m : Nat} {j : Int} {ns : List Int} {P : Out → Prop} {u : TS}
theorem s_augL {f : Int → Int → Int} (hx : Γ[n]? = some (some (.o (.list (ns.map .int))))) (hi : Ev c ta Γ ka (.int (m : Int))) (hm : m < ns.length) (h : Ev c te Γ k (.int j)) (p : P (.nx (Γ.set n (some (.o (.list ((ns.set m (f (ns.getD m 0) j)).map .int))))))) : Sd c (tAugS (tVar n) ta te (rGetL c.K) (ipI f) rSetL) Γ P := fun H0 O H σ D e s => by
  obtain ⟨q, xs, f1, hq, hp, fa, _⟩ := e.write (es := (ns.set m (f (ns.getD m 0) j)).map .int) hx
  refine ⟨.ref q, hq, hi H0 O H σ e _ fun w H2 r2 ws => ?_⟩
  have e2 := e.on r2
  obtain ⟨q2, xs2, f2, hq2, hp2, fa2, _⟩ := e2.write (es := (ns.set m (f (ns.getD m 0) j)).map .int) hx
  have eq2 : q2 = q := by rw [hq] at hq2; cases hq2; rfl
  subst eq2
  obtain ⟨_, ba2⟩ := fa2.flat0 (flatAll_ints ns)
  have i2 := ba2.ints
  subst i2
  refine ⟨q2, ns.map V.int, m, .int (ns.getD m 0), rfl, (Res.bo e ws).int', .inl (.inl hp2), by simp [List.getD_eq_getElem?_getD, hm], ?_⟩
  refine h H0 O H2 σ e2 _ fun y H4 r4 ys => ⟨_, _, rfl, (Res.bo e2 ys).int', ?_⟩
  have e4 := e2.on r4
  obtain ⟨q3, xs3, f3, hq3, hp3, fa3, qf3, qO3, wr⟩ := e4.write (es := (ns.set m (f (ns.getD m 0) j)).map .int) hx
  have eq3 : q3 = q2 := by rw [hq] at hq3; cases hq3; rfl
  subst eq3
  obtain ⟨e0, ba3⟩ := fa3.flat0 (flatAll_ints ns)
  have i3 := ba3.ints
  subst i3
  subst e0
  refine ⟨q3, ns.map V.int, (m : Int), m, rfl, (Res.bo e ws).int', hp3, ixN_at rfl (by simpa using hm), s _ p O _ σ (wr _ ?_)⟩
  have := (FoAll.set0 (m := m) (x := V.int (f (ns.getD m 0) j)) (e := PyData.int (f (ns.getD m 0) j)) fa3 rfl (.int _)).up (H' := upd H4 q3 (.lst ((ns.map V.int).set m (.int (f (ns.getD m 0) j))))) (fun _ _ s => sqT_upd hp3 s) fun a ha => absurd ha (by simp)
  rw [List.map_set]
  exact this
end
end Lm


/-! entries of families -/
namespace Lm
open PySem PySem.Spec PyProof.Rows L2
def entI (i : Nat) (n : Int) : List (List Int) := (List.range n.toNat).map fun (p : Nat) => [((i + 1 : Nat) : Int), (p : Int)]
def entL (ns : List Int) : List (List Int) := (List.range ns.length).flatMap fun i => entI i (ns.getD i 0)
/-- the entries -/
theorem mem_ent {ns e : List Int} : e ∈ entL ns ↔ ∃ x y : Nat, e = [((x + 1 : Nat) : Int), (y : Int)] ∧ x < ns.length ∧ (y : Int) < ns.getD x 0 := by
  unfold entL entI
  simp only [List.mem_flatMap, List.mem_map, List.mem_range]
  constructor
  · rintro ⟨x, hx, y, hy, rfl⟩
    exact ⟨x, y, rfl, hx, by omega⟩
  · rintro ⟨x, y, rfl, hx, hy⟩
    exact ⟨x, hx, y, by omega, rfl⟩
end Lm


/-! sorted(xs), xs a list of rows -/
namespace L2
open PySem PySem.Spec PyProof.Rows
end L2
namespace Lm
open PySem PySem.Spec PyProof.Rows L2
section
variable {X : Cx} {K : PySem.W.Frag} (hK : X.K = K)
include hK
end
section
variable {c : Ct} {Γ : List (Option Rs)} {te : TE} {k : Kd}
end
end Lm


/-! tuple * -1 -/
namespace L2
open PySem PySem.Spec PyProof.Rows
end L2
namespace Lm
open PySem PySem.Spec PyProof.Rows L2
section
variable {X : Cx} {K : PySem.W.Frag} (hK : X.K = K)
include hK
end
section
variable {c : Ct} {Γ : List (Option Rs)} {ta tb : TE} {ka kb : Kd} {ds : List PyData} {i : Int}
end
end Lm


namespace Lm
open PySem PySem.Spec PyProof.Rows L2

/-! ### pairs of entries that are used together -/
abbrev E2 := List Int × List Int
structure UsP (A : List (List Int)) (s : List Int) (k : Nat) (Ps : List E2) : Prop where
  nd : Ps.Nodup
  mem : ∀ e f, (e, f) ∈ Ps ↔ (∃ r ∈ A, e ∈ entL r ∧ f ∈ entL r ∧ e ≠ f) ∨ (e ∈ (entL s).take k ∧ f ∈ entL s ∧ e ≠ f)
theorem UsP.nil : UsP [] [] 0 [] := ⟨List.nodup_nil, fun e f => by simp⟩
def newP (s e : List Int) (Ps : List E2) : List E2 := ((entL s).filter fun g => !decide (e = g) && !decide ((e, g) ∈ Ps)).map fun g => (e, g)
theorem UsP.step {A : List (List Int)} {s e : List Int} {k : Nat} {Ps : List E2} (h : UsP A s k Ps) (nd : (entL s).Nodup) (hk : (entL s)[k]? = some e) : UsP A s (k + 1) (Ps ++ newP s e Ps) := by
  refine ⟨?_, fun a b => ?_⟩
  · rw [List.nodup_append]
    refine ⟨h.nd, ?_, fun x hx y hy z => ?_⟩
    · exact List.Pairwise.map _ (fun a b ne z => ne (Prod.mk.inj z).2) (nd.filter _)
    · obtain ⟨g, hg, rfl⟩ := List.mem_map.mp hy
      have := (List.mem_filter.mp hg).2
      rw [Bool.and_eq_true] at this
      subst z
      have w := this.2
      rw [decide_eq_true hx] at w
      cases w
  · rw [List.mem_append, h.mem, List.take_add_one, hk]
    constructor
    · rintro ((w | w) | w)
      · exact .inl w
      · exact .inr ⟨List.mem_append_left _ w.1, w.2⟩
      · obtain ⟨g, hg, z⟩ := List.mem_map.mp w
        obtain ⟨rfl, rfl⟩ := Prod.mk.inj z
        obtain ⟨m, q⟩ := List.mem_filter.mp hg
        rw [Bool.and_eq_true] at q
        refine .inr ⟨by simp, m, ?_⟩
        have := q.1
        simpa using this
    · rintro (w | ⟨w1, w2, w3⟩)
      · exact .inl (.inl w)
      · rcases List.mem_append.mp w1 with q | q
        · exact .inl (.inr ⟨q, w2, w3⟩)
        · have q : a = e := by simpa using q
          subst q
          by_cases m : (a, b) ∈ Ps
          · exact .inl ((h.mem a b).mp m)
          · refine .inr (List.mem_map.mpr ⟨b, List.mem_filter.mpr ⟨w2, ?_⟩, rfl⟩)
            simp [m, w3]
theorem UsP.len {A : List (List Int)} {s : List Int} {k : Nat} {Ps : List E2} (h : UsP A s k Ps) (hA : ∀ r ∈ s :: A, r.length ≤ 4 ∧ ∀ x ∈ r, x ≤ 10) : Ps.length ≤ 1600 := by
  have big : ∀ r ∈ s :: A, ∀ e ∈ entL r, e ∈ entL [10, 10, 10, 10] := fun r hr e he => by
    obtain ⟨x, y, rfl, hx, hy⟩ := mem_ent.mp he
    have hs' := hA r hr
    have := hs'.2 _ (gd_mem hx)
    refine mem_ent.mpr ⟨x, y, rfl, by show x < 4; omega, ?_⟩
    have x4 : x < 4 := by omega
    have : ([10, 10, 10, 10] : List Int).getD x 0 = 10 := by
      match x, x4 with
      | 0, _ => rfl
      | 1, _ => rfl
      | 2, _ => rfl
      | 3, _ => rfl
    omega
  have l40 : (entL [10, 10, 10, 10]).length = 40 := by decide
  refine Nat.le_trans (nodup_sub (m := (entL [10, 10, 10, 10]).flatMap fun e => (entL [10, 10, 10, 10]).map fun f => (e, f)) h.nd fun p hp => ?_) ?_
  · obtain ⟨e, f⟩ := p
    have m : ∃ r ∈ s :: A, e ∈ entL r ∧ f ∈ entL r := by
      rcases (h.mem e f).mp hp with ⟨r, hr, h1, h2, _⟩ | ⟨h1, h2, _⟩
      · exact ⟨r, List.mem_cons_of_mem _ hr, h1, h2⟩
      · exact ⟨s, List.mem_cons_self, List.mem_of_mem_take h1, h2⟩
    obtain ⟨r, hr, h1, h2⟩ := m
    exact List.mem_flatMap.mpr ⟨e, big r hr e h1, List.mem_map_of_mem (big r hr f h2)⟩
  · have : ∀ (l m : List (List Int)), (l.flatMap fun e => m.map fun f => (e, f)).length = l.length * m.length := by
      intro l m
      induction l with
      | nil => simp
      | cons a l ih => rw [List.flatMap_cons, List.length_append, ih, List.length_map, List.length_cons, Nat.succ_mul]; omega
    rw [this, l40]
    decide
end Lm


namespace Lm
open PySem PySem.Spec PyProof.Rows L2

/-! ### while -/
section
variable {c : Ct} {H0 H : Hp} {O : List Addr} {σ : L2.St} {Γ : List (Option Rs)} {P : Out → Prop} {tc : TT} {tb u : TS}
end

/-! ### levels: the mathematics -/
def bvI (own : List Int) (h : Int) (ls : List Int) : List Int := own.filter fun y => decide (wrtI h ls y = gw own h ls)
def bvL (C : List (List Int)) (f ls : List Int) : List (List Int) := (C.zip f).map fun p => bvI p.1 p.2 ls
def upS (c : Int) (p : Pk) (ls : List Int) : List Int := (List.range ls.length).map fun y => ls.getD y 0 + c * b1 (p y)
def bnd (as f : List Int) (C : List (List Int)) (ls : List Int) : Int := zs mulI as ls + gwS C f ls
theorem upS_get {c : Int} {p : Pk} {ls : List Int} {y : Nat} (h : y < ls.length) : (upS c p ls).getD y 0 = ls.getD y 0 + c * b1 (p y) := by
  unfold upS
  rw [List.getD_eq_getElem?_getD, List.getElem?_map, List.getElem?_range h]
  rfl
theorem sumM_add {α : Type} (g h : α → Int) : ∀ l : List α, (l.map fun x => g x + h x).sum = (l.map g).sum + (l.map h).sum
  | [] => rfl
  | a :: l => by simp only [List.map_cons, List.sum_cons, sumM_add g h l]; omega
theorem sumM_mul {α : Type} (c : Int) (h : α → Int) : ∀ l : List α, (l.map fun x => c * h x).sum = c * (l.map h).sum
  | [] => by simp
  | a :: l => by simp only [List.map_cons, List.sum_cons, sumM_mul c h l, Int.mul_add]
theorem zs_up {as ls : List Int} (c : Int) (p : Pk) (h : as.length = ls.length) : zs mulI as (upS c p ls) = zs mulI as ls + c * rmP as p := by
  unfold zs rmP
  rw [← sumM_mul, ← sumM_add]
  congr 1
  refine List.map_congr_left fun j hj => ?_
  have := List.mem_range.mp hj
  rw [upS_get (by omega)]
  unfold mulI b1
  rw [Int.mul_add]
  by_cases q : p j = true
  · rw [if_pos q, if_pos q, Int.mul_one, Int.mul_comm c]
  · rw [if_neg q, if_neg q]; simp
theorem wrt_up {h c : Int} {p : Pk} {ls : List Int} {y : Int} (y0 : 0 ≤ y) (yl : y < ls.length) : wrtI h (upS c p ls) y = wrtI h ls y - c * b1 (p y.toNat) := by
  unfold wrtI
  rw [upS_get (by omega)]
  omega
theorem gw_mem {own ls : List Int} {h : Int} (ne : own ≠ []) : ∃ y ∈ own, wrtI h ls y = gw own h ls := by
  obtain ⟨y, hy, e⟩ := List.mem_map.mp (mxL_mem (ns := own.map (wrtI h ls)) (by rw [List.length_map]; exact List.length_pos_iff.mpr ne))
  exact ⟨y, hy, e⟩
theorem gw_top {own ls : List Int} {h m : Int} (ne : own ≠ []) (hm : ∀ y ∈ own, wrtI h ls y ≤ m) : gw own h ls ≤ m := by
  obtain ⟨y, hy, e⟩ := gw_mem (h := h) (ls := ls) ne
  rw [← e]; exact hm y hy
theorem mem_bvI {own ls : List Int} {h y : Int} : y ∈ bvI own h ls ↔ y ∈ own ∧ wrtI h ls y = gw own h ls := by
  unfold bvI
  rw [List.mem_filter, decide_eq_true_iff]
theorem ins_iff {p : Pk} {own : List Int} : insP p own = true ↔ ∀ y ∈ own, p y.toNat = true := by
  unfold insP
  rw [List.all_eq_true]
theorem b1_nn (b : Bool) : 0 ≤ b1 b ∧ b1 b ≤ 1 := by cases b <;> simp [b1]
theorem gw_step {own ls : List Int} {h : Int} {p : Pk} (ne : own ≠ []) (hr : ∀ y ∈ own, 0 ≤ y ∧ y < ls.length) : gw own h (upS 1 p ls) = gw own h ls - b1 (insP p (bvI own h ls)) := by
  have wr : ∀ y ∈ own, wrtI h (upS 1 p ls) y = wrtI h ls y - b1 (p y.toNat) := fun y hy => by
    rw [wrt_up (hr y hy).1 (hr y hy).2]; omega
  obtain ⟨y1, m1, e1⟩ := gw_mem (h := h) (ls := upS 1 p ls) ne
  by_cases hc : insP p (bvI own h ls) = true
  · rw [hc]
    have hp := ins_iff.mp hc
    obtain ⟨y0, m0, e0⟩ := gw_mem (h := h) (ls := ls) ne
    have g0 := gw_ge (ls := upS 1 p ls) (h := h) m0
    rw [wr y0 m0, hp y0 (mem_bvI.mpr ⟨m0, e0⟩), e0] at g0
    have g1 := gw_ge (ls := ls) (h := h) m1
    rw [wr y1 m1] at e1
    show gw own h (upS 1 p ls) = gw own h ls - 1
    have b11 : b1 true = 1 := rfl
    by_cases q : wrtI h ls y1 = gw own h ls
    · rw [hp y1 (mem_bvI.mpr ⟨m1, q⟩)] at e1
      omega
    · have := b1_nn (p y1.toNat)
      omega
  · have hc' : insP p (bvI own h ls) = false := by simpa using hc
    rw [hc']
    have : ∃ y ∈ bvI own h ls, p y.toNat = false := by
      unfold insP at hc'
      rw [List.all_eq_false] at hc'
      obtain ⟨y, hy, q⟩ := hc'
      exact ⟨y, hy, by simpa using q⟩
    obtain ⟨y0, hy0, q0⟩ := this
    obtain ⟨m0, e0⟩ := mem_bvI.mp hy0
    have g0 := gw_ge (ls := upS 1 p ls) (h := h) m0
    rw [wr y0 m0, q0, e0] at g0
    have g1 := gw_ge (ls := ls) (h := h) m1
    rw [wr y1 m1] at e1
    have := b1_nn (p y1.toNat)
    have b10 : b1 false = 0 := rfl
    omega
theorem bv_cons {own : List Int} {C : List (List Int)} {h : Int} {f ls : List Int} : bvL (own :: C) (h :: f) ls = bvI own h ls :: bvL C f ls := rfl
theorem gwS_cons {own : List Int} {C : List (List Int)} {h : Int} {f ls : List Int} : gwS (own :: C) (h :: f) ls = gw own h ls + gwS C f ls := by simp [gwS]
theorem gwS_step {p : Pk} {ls : List Int} : ∀ {C : List (List Int)} {f : List Int}, C.length = f.length → [] ∉ C → Rng C ls.length → gwS C f (upS 1 p ls) = gwS C f ls - cfP (bvL C f ls) p
  | [], [], _, _, _ => by simp [gwS, bvL, cfP]
  | own :: C, h :: f, hl, ne, hr => by
    have ih := gwS_step (p := p) (ls := ls) (C := C) (f := f) (by simpa using hl) (fun z => ne (List.mem_cons_of_mem _ z)) fun o ho => hr o (List.mem_cons_of_mem _ ho)
    rw [gwS_cons, gwS_cons, bv_cons, cf_cons, ih, gw_step (fun z => ne (by rw [z]; exact List.mem_cons_self)) (hr own List.mem_cons_self)]
    omega
  | [], _ :: _, h, _, _ => by simp at h
  | _ :: _, [], h, _, _ => by simp at h
theorem bnd_step {as f ls : List Int} {C : List (List Int)} {p : Pk} (hl : C.length = f.length) (ne : [] ∉ C) (hr : Rng C ls.length) (ha : as.length = ls.length) : bnd as f C (upS 1 p ls) = bnd as f C ls + rmP as p - cfP (bvL C f ls) p := by
  unfold bnd
  rw [zs_up 1 p ha, gwS_step hl ne hr]
  omega
end Lm


namespace Lm
open PySem PySem.Spec PyProof.Rows L2

/-! ### the first levels -/
theorem vs_sizes : ∀ v < 6, (vsN v).Pairwise fun a b => a.length ≤ b.length := by decide +kernel
theorem sh_first {as : List Int} {C : List (List Int)} {s t : List Nat} (h5 : as.length ≤ 5) (h : shS as C = some s) (ht : t ∈ vsN as.length) (hl : t.length < s.length) : cfP C (inS t) ≤ roomI as t := by
  obtain ⟨_, as1, bs, e, hn⟩ := List.find?_eq_some_iff_append.mp h
  have pw := vs_sizes as.length (by omega)
  rw [e] at pw ht
  obtain ⟨_, p2, _⟩ := List.pairwise_append.mp pw
  have q := (List.pairwise_cons.mp p2).1
  rcases List.mem_append.mp ht with w | w
  · have := hn t w
    simp only [Bool.not_eq_true', decide_eq_false_iff_not] at this
    omega
  · rcases List.mem_cons.mp w with w | w
    · rw [w] at hl; omega
    · have := q t w; omega
theorem bv_point {own ls ms : List Int} {h : Int} {p q t : Pk} (le : ∀ y ∈ own, ls.getD y.toNat 0 ≤ ms.getD y.toNat 0) (hq : ∀ y ∈ own, p y.toNat = true → q y.toNat = false → ls.getD y.toNat 0 = ms.getD y.toNat 0)
    (ht : ∀ y ∈ own, p y.toNat = true → ls.getD y.toNat 0 = ms.getD y.toNat 0 → t y.toNat = true)
    (h1 : insP p (bvI own h ls) = true) (h2 : insP q (bvI own h ls) = false) : insP t (bvI own h ms) = true := by
  unfold insP at h2
  rw [List.all_eq_false] at h2
  obtain ⟨y, hy, qy⟩ := h2
  have qy : q y.toNat = false := by simpa using qy
  have hp := ins_iff.mp h1
  obtain ⟨my, ey⟩ := mem_bvI.mp hy
  have e := hq y my (hp y hy) qy
  have wle : ∀ z ∈ own, wrtI h ms z ≤ wrtI h ls z := fun z hz => by
    unfold wrtI
    have := le z hz
    omega
  have wy : wrtI h ms y = wrtI h ls y := by unfold wrtI; rw [e]
  have g1 : gw own h ms ≤ gw own h ls := gw_top (fun z => by rw [z] at my; cases my) fun z hz => by
    have a := wle z hz
    have b := gw_ge (ls := ls) (h := h) hz
    omega
  have g2 := gw_ge (ls := ms) (h := h) my
  refine ins_iff.mpr fun z hz => ?_
  obtain ⟨mz, ez⟩ := mem_bvI.mp hz
  have a := wle z mz
  have b := gw_ge (ls := ls) (h := h) mz
  have best : z ∈ bvI own h ls := mem_bvI.mpr ⟨mz, by omega⟩
  refine ht z mz (hp z best) ?_
  have : wrtI h ms z = wrtI h ls z := by omega
  unfold wrtI at this
  omega
theorem bv_count {ls ms : List Int} {p q t : Pk} : ∀ {C : List (List Int)} {f : List Int}, C.length = f.length → (∀ own ∈ C, ∀ y ∈ own, ls.getD y.toNat 0 ≤ ms.getD y.toNat 0) → (∀ own ∈ C, ∀ y ∈ own, p y.toNat = true → q y.toNat = false → ls.getD y.toNat 0 = ms.getD y.toNat 0) →
    (∀ own ∈ C, ∀ y ∈ own, p y.toNat = true → ls.getD y.toNat 0 = ms.getD y.toNat 0 → t y.toNat = true) → cfP (bvL C f ls) p ≤ cfP (bvL C f ls) q + cfP (bvL C f ms) t
  | [], [], _, _, _, _ => by simp [bvL, cfP]
  | own :: C, h :: f, hl, le, hq, ht => by
    have ih := bv_count (p := p) (q := q) (t := t) (C := C) (f := f) (by simpa using hl) (fun o ho => le o (List.mem_cons_of_mem _ ho)) (fun o ho => hq o (List.mem_cons_of_mem _ ho)) fun o ho => ht o (List.mem_cons_of_mem _ ho)
    rw [bv_cons, bv_cons, cf_cons, cf_cons, cf_cons]
    have n1 := b1_nn (insP q (bvI own h ls))
    have n2 := b1_nn (insP t (bvI own h ms))
    have n3 := b1_nn (insP p (bvI own h ls))
    have b11 : b1 true = 1 := rfl
    have b10 : b1 false = 0 := rfl
    cases e1 : insP p (bvI own h ls) with
    | false => omega
    | true =>
      cases e2 : insP q (bvI own h ls) with
      | true => omega
      | false =>
        have := bv_point (h := h) (le own List.mem_cons_self) (hq own List.mem_cons_self) (ht own List.mem_cons_self) e1 e2
        rw [this]
        omega
  | [], _ :: _, h, _, _, _ => by simp at h
  | _ :: _, [], h, _, _, _ => by simp at h
theorem nodup_lt {s t : List Nat} {y : Nat} (nd : t.Nodup) (sub : ∀ x ∈ t, x ∈ s) (hy : y ∈ s) (hn : y ∉ t) : t.length < s.length := by
  have := nodup_sub (l := y :: t) (m := s) (List.nodup_cons.mpr ⟨hn, nd⟩) fun x hx => by
    rcases List.mem_cons.mp hx with q | q
    · rw [q]; exact hy
    · exact sub x q
  rw [List.length_cons] at this
  omega
/-- a smallest set that is too small is raised below all levels that reach the bound -/
theorem below {as f ls ms : List Int} {C : List (List Int)} {s : List Nat} (h5 : as.length ≤ 5) (hl : C.length = f.length) (hr : Rng C as.length) (l1 : ls.length = as.length) (h : shS as (bvL C f ls) = some s) (hall : Hall as (bvL C f ms))
    (le : ∀ y < as.length, ls.getD y 0 ≤ ms.getD y 0) : ∀ y < as.length, (upS 1 (inS s) ls).getD y 0 ≤ ms.getD y 0 := by
  intro y hy
  rw [upS_get (by omega)]
  have a := le y hy
  by_cases ys : inS s y = true
  · by_cases eq : ls.getD y 0 = ms.getD y 0
    · exfalso
      obtain ⟨hs, short⟩ := sh_some h
      obtain ⟨t, et⟩ : ∃ t : List Nat, t = (List.range as.length).filter fun x => inS s x && !decide (ls.getD x 0 = ms.getD x 0) := ⟨_, rfl⟩
      have tv : t ∈ vsN as.length := by rw [et]; exact vs_filter ..
      have mt : ∀ x, x ∈ t ↔ x < as.length ∧ (x ∈ s ∧ ls.getD x 0 ≠ ms.getD x 0) := fun x => by
        rw [et, List.mem_filter, List.mem_range, Bool.and_eq_true]
        unfold inS
        rw [decide_eq_true_iff, Bool.not_eq_true', decide_eq_false_iff_not]
      have lt : t.length < s.length := nodup_lt (by rw [et]; exact List.nodup_range.filter _) (fun x hx => ((mt x).mp hx).2.1) (show y ∈ s from of_decide_eq_true ys) fun w => ((mt y).mp w).2.2 eq
      have few := sh_first h5 h tv lt
      rw [room_rm tv] at few
      rw [room_rm hs] at short
      have up := bv_count (ls := ls) (ms := ms) (p := inS s) (q := inS t) (t := fun x => inS s x && decide (ls.getD x 0 = ms.getD x 0)) (C := C) (f := f) hl (fun own ho z hz => by
          have := hr own ho z hz
          exact le _ (by omega)) (fun own ho z hz p1 q1 => by
          have zr := hr own ho z hz
          apply Decidable.byContradiction
          intro ne
          have : inS t z.toNat = true := decide_eq_true ((mt _).mpr ⟨by omega, of_decide_eq_true p1, ne⟩)
          rw [this] at q1; cases q1) (fun own ho z hz p1 e1 => by
          show (inS s z.toNat && decide _) = true
          rw [p1, decide_eq_true e1]; rfl)
      have ha := hall fun x => inS s x && decide (ls.getD x 0 = ms.getD x 0)
      have parts : rmP as (inS s) = rmP as (inS t) + rmP as fun x => inS s x && decide (ls.getD x 0 = ms.getD x 0) := by
        unfold rmP
        rw [← sumM_add]
        congr 1
        refine List.map_congr_left fun x hx => ?_
        have hx := List.mem_range.mp hx
        by_cases m : x ∈ s
        · have e1 : inS s x = true := decide_eq_true m
          by_cases e : ls.getD x 0 = ms.getD x 0
          · have e2 : inS t x = false := decide_eq_false fun w => ((mt x).mp w).2.2 e
            simp only [e1, e2, decide_eq_true e]; simp
          · have e2 : inS t x = true := decide_eq_true ((mt x).mpr ⟨hx, m, e⟩)
            simp only [e1, e2, decide_eq_false e]; simp
        · have e1 : inS s x = false := decide_eq_false m
          have e2 : inS t x = false := decide_eq_false fun w => m ((mt x).mp w).2.1
          simp only [e1, e2]; simp
      omega
    · have := b1_nn (inS s y)
      omega
  · have e : inS s y = false := by simpa using ys
    rw [e]
    show ls.getD y 0 + 1 * 0 ≤ _
    omega
/-- what the levels of a setting speak of -/
structure LvOk (as f : List Int) (C : List (List Int)) (v b : Nat) : Prop where
  asl : as.length = v
  fl : f.length = b
  cl : C.length = b
  mns : Mns C v
  pw : ∀ own ∈ C, own.Pairwise (· < ·)
  v5 : v ≤ 5
  b20 : b ≤ 20
  alc : Alc as (v : Int) (b : Int)
variable {as f : List Int} {C : List (List Int)} {v b : Nat}
theorem LvOk.hall_ps (h : LvOk as f C v b) : Hall as C ↔ ∃ r, r ∈ psL as v b C := by
  have hr : Rng C as.length := by rw [h.asl]; exact h.mns.rng
  have sum : as.sum = C.length := by rw [h.alc.sum, h.cl]
  constructor
  · intro ha
    exact ⟨_, (mem_ps h.asl h.cl h.mns.rng).mpr (grd_fit hr ha sum)⟩
  · rintro ⟨r, hm⟩
    exact fit_hall hr ((mem_ps h.asl h.cl h.mns.rng).mp hm)
theorem zs_b : ∀ {f r : List Int}, f.length = r.length → 0 ≤ zs ne1 f r ∧ zs ne1 f r ≤ f.length
  | [], [], _ => by simp [zs]
  | x :: f, y :: r, h => by
    have := zs_b (f := f) (r := r) (by simpa using h)
    have e : ne1 x y = if x = y then 0 else 1 := rfl
    rw [zs_cons, e, List.length_cons]
    split <;> omega
  | [], _ :: _, h => by simp at h
  | _ :: _, [], h => by simp at h
theorem LvOk.no_nil (h : LvOk as f C v b) (ha : Hall as C) : [] ∉ C := by
  obtain ⟨r, hr⟩ := h.hall_ps.mp ha
  exact (weak (ls := List.replicate v 0) h.cl h.fl (by simp) hr).1
theorem LvOk.nn (h : LvOk as f C v b) (ha : Hall as C) {ls : List Int} (hl : ls.length = v) : 0 ≤ bnd as f C ls := by
  obtain ⟨r, hr⟩ := h.hall_ps.mp ha
  have w := (weak (ls := ls) h.cl h.fl hl hr).2
  have rl := ((mem_psL (by omega)).mp hr).1
  have z := zs_b (f := f) (r := r) (by rw [h.fl, rl])
  have := h.fl
  unfold bnd
  omega
theorem LvOk.step (h : LvOk as f C v b) (ha : Hall as C) {ls : List Int} {s : List Nat} (hl : ls.length = v) (hs : shS as (bvL C f ls) = some s) : bnd as f C (upS 1 (inS s) ls) < bnd as f C ls := by
  rw [bnd_step (by rw [h.cl, h.fl]) (h.no_nil ha) (by rw [hl]; exact h.mns.rng) (by rw [h.asl, hl])]
  obtain ⟨h1, h2⟩ := sh_some hs
  rw [room_rm h1] at h2
  omega
end Lm


namespace Lm
open PySem PySem.Spec PyProof.Rows L2

/-! ### promises of keeping.py, for up to 20 buckets -/
structure ExcW (as f : List Int) (F P : List (List Int)) (v b : Nat) : Prop where
  v1 : 1 ≤ v
  v5 : v ≤ 5
  b6 : b ≤ 20
  asg : Asg f (v : Int)
  len : f.length = b
  alc : Alc as (v : Int) (b : Int)
  prd : Prd F v b
  pin : Pin P v b
theorem Exc.w {as f : List Int} {F P : List (List Int)} {v b : Nat} (h : Exc as f F P v b) : ExcW as f F P v b := ⟨h.v1, h.v5, by have := h.b6; omega, h.asg, h.len, h.alc, h.prd, h.pin⟩
variable {as f : List Int} {C : List (List Int)} {v b : Nat}
end Lm


namespace Lm
open PySem PySem.Spec PyProof.Rows L2
variable {as f : List Int} {C : List (List Int)} {v b : Nat}
theorem Prd.sub {F F' : List (List Int)} (h : Prd F v b) (s : F'.Sublist F) : Prd F' v b :=
  ⟨fun r hr => h.row r (s.subset hr), h.asc.sublist s, Nat.le_trans s.length_le h.len⟩
theorem Pin.sub {F F' : List (List Int)} (h : Pin F v b) (s : F'.Sublist F) : Pin F' v b :=
  ⟨h.toPrd.sub s, h.fst.sublist s⟩
end Lm


namespace Lm
open PySem PySem.Spec PyProof.Rows L2
section
variable {c : Ct} {H H' H0 H1 H2 H3 : Hp} {O : List Addr} {σ : L2.St} {Γ Γ' : List (Option Rs)} {te ta tx : TE} {k : Kd} {u : TS} {P : Out → Prop} {n : Nat} {x : PyData}
/-! ### where no list of one's own is alive, what a call answers may be kept, lists in it too -/
def bareB : List (Option Rs) → Bool
  | [] => true
  | some (.o _) :: _ => false
  | none :: Γ => bareB Γ
  | some (.v _) :: Γ => bareB Γ
  | some (.r _) :: Γ => bareB Γ
  | some (.d _) :: _ => false
  | some (.w _) :: _ => false
end

/-! ### any evidence (k80) -/
end Lm


namespace Lm
open PySem PySem.Spec PyProof.Rows L2

/-! ### buckets and variants renamed in a setting -/
structure RnS (as as' : List Int) (C C' : List (List Int)) (v b : Nat) (os io nm im : List Int) : Prop where
  o : IsOrd os (b : Int)
  oi : IsOrd io (b : Int)
  q : IsOrd nm (v : Int)
  qi : IsOrd im (v : Int)
  o1 : ∀ k < b, gI io (gI os ((k : Nat) : Int)) = (k : Int)
  o2 : ∀ k < b, gI os (gI io ((k : Nat) : Int)) = (k : Int)
  q1 : ∀ k < v, gI im (gI nm ((k : Nat) : Int)) = (k : Int)
  q2 : ∀ k < v, gI nm (gI im ((k : Nat) : Int)) = (k : Int)
  al : as.length = v
  al' : as'.length = v
  cl : C.length = b
  cl' : C'.length = b
  rg : Rng C v
  rg' : Rng C' v
  sh : ∀ y < v, gI as' (gI nm ((y : Nat) : Int)) = gI as (y : Int)
  mn : ∀ k < b, ∀ y < v, (gI nm ((y : Nat) : Int) ∈ C'.getD (gI os ((k : Nat) : Int)).toNat [] ↔ (y : Int) ∈ C.getD k [])
section
variable {as as' f f' os io nm im : List Int} {C C' : List (List Int)} {v b : Nat}
theorem ord_nat {os : List Int} {m : Nat} (o : IsOrd os (m : Int)) {k : Nat} (hk : k < m) : ∃ j : Nat, gI os (k : Int) = (j : Int) ∧ j < m := by
  have r := o.rng _ (gd_mem (l := os) (j := k) (by have := o.len; omega))
  exact ⟨(os.getD k 0).toNat, by show os.getD k 0 = _; omega, by omega⟩
theorem RnS.symm (h : RnS as as' C C' v b os io nm im) : RnS as' as C' C v b io os im nm := by
  refine ⟨h.oi, h.o, h.qi, h.q, h.o2, h.o1, h.q2, h.q1, h.al', h.al, h.cl', h.cl, h.rg', h.rg, fun y hy => ?_, fun k hk y hy => ?_⟩
  · obtain ⟨z, ez, hz⟩ := ord_nat h.qi hy
    have := h.sh z hz
    rw [← ez, h.q2 y hy] at this
    exact this.symm
  · obtain ⟨z, ez, hz⟩ := ord_nat h.qi hy
    obtain ⟨j, ej, hj⟩ := ord_nat h.oi hk
    have := h.mn j hj z hz
    rw [← ez, ← ej, h.q2 y hy, h.o2 k hk, Int.toNat_natCast, ez] at this
    rw [ez, ej, Int.toNat_natCast]
    exact this.symm
end
end Lm


/-! itertools.permutations(range(n), k), walked -/
namespace PrmK
open PySem PySem.Spec PyProof.Rows L2
end PrmK


/-! itertools.permutations(range(n), k): made, its turns -/
namespace PrmK
open PySem PySem.Spec PyProof.Rows L2
end PrmK


/-! itertools.permutations: its turns -/
namespace PrmK
open PySem PySem.Spec PyProof.Rows L2
section
variable {prog : Program} {w : World} {A : Around} {E : Value → Shared → Prop} {s : Shared} {it T : Addr} {bf : Value} {ns : List Nat} {r : Nat} {xs : Array Value}
end
end PrmK


/-! itertools.permutations(range(n), k): made, its turns -/
namespace PrmK
open PySem PySem.Spec PyProof.Rows L2
end PrmK


/-! list(permutations(range(n))) -/
namespace PrmK
open PySem PySem.Spec PyProof.Rows L2
end PrmK
namespace Lm
open PySem PySem.Spec PyProof.Rows L2 PrmK
section
variable {prog : Program} {w : World} {A : Around} {E : Value → Shared → Prop} {s : Shared} {it T : Addr} {n k : Nat} {seq : List PrS} {xs : Array Value}
end
section
variable {prog : Program} {w : World} {A : Around} {R : Result → Shared → Prop}
end
section
variable {prog : Program} {w : World} {A : Around} {E : Value → Shared → Prop} {s : Shared}
end
section
variable {c : Ct} {H H' : Hp} {Γ : List (Option Rs)} {te : TE} {kd : Kd}
end
end Lm


/-! sorted(xs), xs a list of data that can be compared -/
namespace L2
open PySem PySem.Spec PyProof.Rows
def rSortedD (K : PySem.W.Frag) : List V → Hp → VK → Prop := fun vs H Q => ∃ (a : Addr) (xs : List V) (ds : List PyData), vs = [V.ref a] ∧ SqL K H a xs ∧ DpAll K H xs ds ∧ PySem.W.AllAlike ds ∧ PySem.W.Sortable ds ∧ ds.length ≤ 1000000 ∧ (∀ d ∈ ds, d.depth ≤ 60) ∧
  ∀ (L : List (V × PyData)) (p : Addr), (∀ q ∈ L, q ∈ xs.zip ds) → L.map (·.2) = ds.mergeSort (PySem.W.dataLe false id) → H p = none → Q (.ref p) (upd H p (.lst (L.map (·.1))))
theorem each_zip : ∀ (vs : List Value) {β : Type} (bs : List β), vs.length = bs.length → PySem.W.EachIs (fun v (b : Value × β) => v = b.1) vs (vs.zip bs)
  | [], _, [], _ => .nil
  | v :: vs, _, b :: bs, h => .cons rfl (each_zip vs bs (by simpa using h))
  | [], _, _ :: _, h => by simp at h
  | _ :: _, _, [], h => by simp at h
theorem each_out {β : Type} : ∀ {out : List Value} {M : List (Value × β)}, PySem.W.EachIs (fun v (b : Value × β) => v = b.1) out M → out = M.map (·.1)
  | _, _, .nil => rfl
  | _, _, .cons h t => by rw [h, each_out t]; rfl
theorem dpAll_len {K : PySem.W.Frag} {H : Hp} : ∀ {xs : List V} {ds : List PyData}, DpAll K H xs ds → xs.length = ds.length
  | _, _, .nil => rfl
  | _, _, .cons _ t => by simp [dpAll_len t]
theorem vals_zip : ∀ {xs : List V} {us : List Value} {ds : List PyData}, Vals xs us → ∀ b ∈ us.zip (xs.zip ds), RelV b.2.1 b.1
  | _, _, [], .cons _ _, b, h => by simp at h
  | _, _, _, .nil, b, h => by simp at h
  | _, _, d :: ds, .cons r t, b, h => by
    rcases List.mem_cons.mp h with w | w
    · rw [w]; exact r
    · exact vals_zip t b w
theorem vals_map {M : List (Value × V × PyData)} : (∀ b ∈ M, RelV b.2.1 b.1) → Vals (M.map fun b => b.2.1) (M.map (·.1)) := by
  induction M with
  | nil => intro _; exact .nil
  | cons b M ih => intro h; exact .cons (h b (by simp)) (ih fun c hc => h c (by simp [hc]))
theorem cr_sortedD {X : Cx} (hu : X.A.units + 64 < cLine) : CallR X (.builtin "sorted") (rSortedD X.K) := by
  intro pins s σ H vs us Q I r h
  obtain ⟨a, xs, ds, rfl, hs, hd, hal, hso, hfew, hdp, q⟩ := h
  obtain ⟨its, rv, hl, hz⟩ := I.list hs
  rw [Vals.ref1 r]
  obtain ⟨as, hr⟩ := Dp.readsAll I ds _ its hd rv
  have lx := dpAll_len hd
  have li := rv.length
  obtain ⟨bs, eb⟩ : ∃ bs : List (Value × V × PyData), bs = its.zip (xs.zip ds) := ⟨_, rfl⟩
  have lb : bs.length = its.length := by rw [eb, List.length_zip, List.length_zip]; omega
  have e2 : bs.map (fun b => b.2.2) = ds := by
    rw [eb]
    apply List.ext_getElem
    · simp only [List.length_map, List.length_zip]; omega
    · intro i i1 i2; simp
  refine PySem.W.sorted_data (bs := bs) (enc := fun b => b.2.2) (R := fun v b => v = b.1) hl.isList (by rw [eb]; exact each_zip its _ (by rw [List.length_zip]; omega)) ?_ (by rw [e2]; exact hal) (by rw [e2]; exact hso) (by rw [lb, sizeLine_eq]; omega) (fun b hb => ?_) fun out lo eo => ?_
  · exact PySem.W.readsAll_each (fun b : Value × V × PyData => b.2.2) (by rw [e2]; exact hr)
  · have := hdp b.2.2 (by rw [← e2]; exact List.mem_map_of_mem hb)
    omega
  · obtain ⟨M, eM⟩ : ∃ M, M = bs.mergeSort (PySem.W.dataLe false fun b => b.2.2) := ⟨_, rfl⟩
    rw [← eM] at eo
    have mem : ∀ b ∈ M, b ∈ bs := fun b hb => by rw [eM] at hb; exact (List.mergeSort_perm _ _).mem_iff.mp hb
    have rel : ∀ b ∈ M, RelV b.2.1 b.1 := fun b hb => by
      have := mem b hb
      rw [eb] at this
      exact vals_zip rv b this
    have em : M.map (fun b => b.2.2) = ds.mergeSort (PySem.W.dataLe false id) := by
      rw [eM, PySem.W.sort_maps (r := PySem.W.dataLe false fun b : Value × V × PyData => b.2.2) (s := PySem.W.dataLe false id) (fun b : Value × V × PyData => b.2.2) (fun x _ y _ => rfl), e2]
    have sub : ∀ q ∈ M.map (fun b => b.2), q ∈ xs.zip ds := fun q hq => by
      obtain ⟨b, hb, rfl⟩ := List.mem_map.mp hq
      have := mem b hb
      rw [eb] at this
      exact (List.of_mem_zip this).2
    obtain ⟨n, hn⟩ := sortedAll_at s.heap its out.toArray
    have hp : H (s.heap.objs.size + 1) = none := I.hok.fresh (Nat.le_succ _)
    have eo' := each_out eo
    have ll : (M.map fun b => b.2.1).length ≤ sizeLine := by
      rw [List.length_map, ← List.length_map (as := M) (fun b => b.1), ← eo', lo, lb, sizeLine_eq]; omega
    have q' := q (M.map fun b => b.2) (s.heap.objs.size + 1) sub (by rw [List.map_map]; exact em) hp
    rw [List.map_map] at q'
    exact ⟨.ref (s.heap.objs.size + 1), upd H (s.heap.objs.size + 1) (.lst (M.map fun b => b.2.1)), I.laid (t' := s.toks) (fun b o e => sortedAll_old e) (Nat.le_succ _) ⟨ll, out, n, by rw [eo']; exact vals_map rel, by simpa using hn⟩, rfl, q'⟩
end L2
namespace Lm
open PySem PySem.Spec PyProof.Rows L2
section
variable {X : Cx} {K : PySem.W.Frag} (hK : X.K = K)
include hK
theorem k_sortedD (hu : X.A.units + 64 < cLine) : CallR X (.builtin "sorted") (L2.rSortedD K) := hK ▸ L2.cr_sortedD hu
end
theorem sort_named {ds S : List PyData} (pm : S.Perm ds) (asc : S.Pairwise fun a b => PySem.W.dataLt a b = true) : ds.mergeSort (PySem.W.dataLe false id) = S := by
  have T := PySem.W.sortLe_total (PyProof.Rows.listOrd PyProof.Rows.itemOrd) false fun b : PyData => PySem.W.keyToks b
  have p1 : (ds.mergeSort (PySem.W.dataLe false id)).Pairwise fun a b => PySem.W.dataLe false id a b = true := PySem.W.sort_pairwise T ds
  have le : ∀ a b, PySem.W.dataLt a b = true → PySem.W.dataLe false id a b = true := fun a b h => by
    rcases T.total a b with w | w
    · exact w
    · have w' : (!PySem.W.dataLt a b) = true := w
      rw [h] at w'; cases w'
  have p2 : S.Pairwise fun a b => PySem.W.dataLe false id a b = true := asc.imp fun h => le _ _ h
  have pm2 : (ds.mergeSort (PySem.W.dataLe false id)).Perm S := (List.mergeSort_perm _ _).trans pm.symm
  refine List.Perm.eq_of_pairwise (fun a b ha hb h1 h2 => ?_) p1 p2 pm2
  have ha' := pm2.mem_iff.mp ha
  have h1' : (!PySem.W.dataLt b a) = true := h1
  have h2' : (!PySem.W.dataLt a b) = true := h2
  rw [Bool.not_eq_true'] at h1' h2'
  apply Classical.byContradiction
  intro ne
  have key : ∀ {l : List PyData}, l.Pairwise (fun a b => PySem.W.dataLt a b = true) → a ∈ l → b ∈ l → PySem.W.dataLt a b = true ∨ PySem.W.dataLt b a = true := by
    intro l
    induction l with
    | nil => intro _ h; cases h
    | cons x l ih =>
      intro pw hx hy
      have ⟨q1, q2⟩ := List.pairwise_cons.mp pw
      rcases List.mem_cons.mp hx with w | w
      · rcases List.mem_cons.mp hy with z | z
        · exact absurd (w.trans z.symm) ne
        · rw [w]; exact .inl (q1 b z)
      · rcases List.mem_cons.mp hy with z | z
        · rw [z]; exact .inr (q1 a w)
        · exact ih q2 w z
  rcases key asc ha' hb with w | w
  · rw [h2'] at w; cases w
  · rw [h1'] at w; cases w
theorem bo_mem {c : Ct} {H : Hp} : ∀ {xs : List V} {ds : List PyData}, BoAll c H xs ds → ∀ q ∈ xs.zip ds, Bo c H q.1 q.2
  | _, _, .nil, q, h => by simp at h
  | _, _, .cons b t, q, h => by
    rcases List.mem_cons.mp h with w | w
    · rw [w]; exact b
    · exact bo_mem t q w
theorem boAll_map {c : Ct} {H : Hp} {L : List (V × PyData)} : (∀ q ∈ L, Bo c H q.1 q.2) → BoAll c H (L.map (·.1)) (L.map (·.2)) := by
  induction L with
  | nil => intro _; exact .nil
  | cons b L ih => intro h; exact .cons (h b (by simp)) (ih fun q hq => h q (by simp [hq]))
section
variable {c : Ct} {Γ : List (Option Rs)} {te : TE} {k : Kd}
/-- data that can be compared: sorted, they are the ascending ones -/
theorem e_sortedD {ds S : List PyData} (h : Ev c te Γ k (.list ds)) (fl : flatAll ds = true) (hl : ds.length ≤ 1000000) (al : PySem.W.AllAlike ds) (so : PySem.W.Sortable ds) (dp : ∀ d ∈ ds, d.depth ≤ 60) (pm : S.Perm ds) (asc : S.Pairwise fun a b => PySem.W.dataLt a b = true) :
    Ev c (tCB (L2.rSortedD c.K) (tCons te tNil)) Γ .o (.list S) := fun H0 O H σ e Q q =>
  h H0 O H σ e _ fun v H1 r1 s1 => by
    obtain ⟨p, xs, rfl, _, sl, ab⟩ := (Res.bo e s1).lst'
    refine ⟨p, xs, ds, rfl, sl, ab.dp, al, so, hl, dp, fun L b sub em hb => ?_⟩
    rw [sort_named pm asc] at em
    have sm1 : Same H1 (upd H1 b (.lst (L.map (·.1)))) := fun x o z => by rw [upd_ne (ne_of_none z hb)]; exact z
    refine q _ _ (r1.tr (Rr.same sm1)) ⟨[b], .lst upd_same ?_, by simp, fun x hx => by rw [List.mem_singleton.mp hx]; exact r1.back e.jH hb⟩
    have bo : BoAll c H1 (L.map (·.1)) S := by
      rw [← em]
      exact boAll_map fun q hq => bo_mem ab q (sub q hq)
    refine .leaves (flatAll_mem fun d hd => ?_) (bo.same sm1)
    have := pm.mem_iff.mp hd
    exact flatAll_one fl this
end
end Lm


/-! sets by size, and what shows that one is too small, for any value (k76) -/
namespace Lm
open PySem PySem.Spec PyProof.Rows L2
theorem dataLt_rows (xs ys : List Int) : PySem.W.dataLt (tupD xs) (tupD ys) = decide (xs < ys) := by
  unfold tupD
  rw [PySem.W.dataLt_tuple]
  exact PySem.W.dataLt_ints xs ys
theorem alike_rows (xs ys : List Int) : PySem.W.alike (tupD xs) (tupD ys) = true := by
  unfold tupD PySem.W.alike
  exact PySem.W.alike_ints xs ys
end Lm


/-! a comprehension whose items stay, lists in them too; a for loop over such things -/
namespace Lm
open PySem PySem.Spec PyProof.Rows L2
section
variable {c : Ct} {H H' H0 H1 H2 H3 H4 : Hp} {O : List Addr} {σ : L2.St} {Γ Γ' : List (Option Rs)} {te ta tb tx : TE} {tr : TA} {k ka kb : Kd} {u : TS} {P : Out → Prop} {n : Nat} {x d : PyData} {ds : List PyData} {fz : Bool}
end
end Lm
namespace Lm
open PySem PySem.Spec PyProof.Rows L2
/-! ### any value: what shows that a set is too small -/
def SmF (x : PyData) : Prop := ∀ es, x = .tuple es → es.length < 64
theorem SmF.t {x : PyData} (h : SmF x) : SmallT x := fun es e => by have := h es e; omega
end Lm
namespace Lm
open PySem PySem.Spec PyProof.Rows L2
end Lm
namespace Lm
open PySem PySem.Spec PyProof.Rows L2
end Lm


namespace Lm
open PySem PySem.Spec PyProof.Rows L2
section
variable {c : Ct} {H H' H0 H1 H2 H3 H4 : Hp} {O : List Addr} {σ : L2.St} {Γ Γ' : List (Option Rs)} {te ta tb tx : TE} {tt : TT} {tr : TA} {k ka kb : Kd} {u : TS} {n : Nat} {x d : PyData} {ds : List PyData} {fz : Bool}
end
theorem smf_len {es : List PyData} (h : es.length < 64) : SmF (.tuple es) := fun es' e => by cases e; exact h
theorem smf_tup {ns : List Int} (h : ns.length < 64) : SmF (tupD ns) := smf_len (by simpa using h)
theorem smf_no {x : PyData} (h : ∀ es, x ≠ .tuple es) : SmF x := fun es e => absurd e (h es)
end Lm


/-! displays of which some items are drawn -/
namespace Lm
open PySem PySem.Spec PyProof.Rows L2
def EvAN (c : Ct) (ta : TA) (Γ : List (Option Rs)) (Pd : List PyData → Prop) : Prop :=
  ∀ H0 O H σ, Env c H0 O H σ Γ → ∀ Q : List V → Hp → Prop, (∀ vs ds H2, Pd ds → Rr c H H2 → BoAll c (mns H2 O) vs ds → Q vs H2) → ta σ H Q
section
variable {c : Ct} {H H' H0 H1 H2 H3 H4 : Hp} {O : List Addr} {σ : L2.St} {Γ Γ' : List (Option Rs)} {te ta tb tx : TE} {tr : TA} {k ka kb : Kd} {u : TS} {n : Nat} {x d : PyData} {ds : List PyData} {P P' : PyData → Prop} {Pd : List PyData → Prop}
theorem an_nil : EvAN c tNil Γ (fun ds => ds = []) := fun H0 O H σ e Q q => q [] [] H rfl Rr.rf .nil
theorem an_cons {P2 : List PyData → Prop} (h : EvN c te Γ .v P) (t : EvAN c tr Γ P2) : EvAN c (tCons te tr) Γ (fun ds => ∃ d es, ds = d :: es ∧ P d ∧ P2 es) := fun H0 O H σ e Q q =>
  h H0 O H σ e _ fun v d H1 pd r1 s1 => t H0 O H1 σ (e.on r1) _ fun vs es H2 pe r2 s2 => by
    have b1 : Bo c (mns H2 O) v d := Res.on (k := .v) e r1 r2 s1
    exact q (v :: vs) (d :: es) H2 ⟨d, es, rfl, pd, pe⟩ (r1.tr r2) (.cons b1 s2)
theorem an_consD (h : Ev c te Γ .v d) {P2 : List PyData → Prop} (t : EvAN c tr Γ P2) : EvAN c (tCons te tr) Γ (fun ds => ∃ d' es, ds = d' :: es ∧ d' = d ∧ P2 es) := an_cons h.n t
theorem n_lstVN (h : EvAN c tr Γ Pd) (hl : ∀ ds, Pd ds → ds.length ≤ 1000000) : EvN c (tLst tr) Γ .v (fun d => ∃ ds, d = .list ds ∧ Pd ds) := fun H0 O H σ e Q q =>
  h H0 O H σ e _ fun vs ds H1 pd r s => by
    refine ⟨by rw [s.len]; exact sizeOk (hl ds pd), fun p hp => q _ _ _ ⟨ds, rfl, pd⟩ (r.tr (Rr.same fun b u z => by rw [upd_ne (ne_of_none z hp)]; exact z)) (newV (H := H1) (e.on r) s hp)⟩
theorem EvAN.imp {P2 : List PyData → Prop} (h : EvAN c tr Γ Pd) (i : ∀ ds, Pd ds → P2 ds) : EvAN c tr Γ P2 := fun H0 O H σ e Q q => h H0 O H σ e Q fun vs ds H2 p => q vs ds H2 (i ds p)
end
theorem smf_i {i : Int} : SmF (.int i) := smf_no fun es e => by cases e
end Lm


/-! sorted(xs, key=len), xs a list of lists -/
namespace L2
open PySem PySem.Spec PyProof.Rows
end L2
namespace L2
open PySem PySem.Spec PyProof.Rows
end L2
namespace Lm
open PySem PySem.Spec PyProof.Rows L2
def lenI (a b : List Int) : Bool := decide ((a.length : Int) ≤ (b.length : Int))
section
variable {c : Ct} {Γ : List (Option Rs)} {te : TE} {k : Kd}
end
end Lm
namespace Lm
open PySem PySem.Spec PyProof.Rows L2
end Lm
namespace Lm
open PySem PySem.Spec PyProof.Rows L2
end Lm
namespace Lm
open PySem PySem.Spec PyProof.Rows L2
end Lm
namespace Lm
open PySem PySem.Spec PyProof.Rows L2
def SmL (x : PyData) : Prop := ∀ es, x = .tuple es → es.length ≤ 1000 ∧ ∀ r ∈ es, SmF r
end Lm


/-! lists by whomever (k56) -/
namespace Lm
open PySem PySem.Spec PyProof.Rows L2
/-! ### rules: a slice whose end is drawn, tuples of which one is drawn -/
section
variable {c : Ct} {H H' H0 H1 H2 H3 : Hp} {O : List Addr} {Γ Γ' Γ1 : List (Option Rs)}
variable {te ta tb tx : TE} {tl th : TO} {k ka kb : Kd} {d x y z : PyData} {i j : Int} {a b : Bool} {ds es : List PyData}
end
/-! ### the mathematics -/
inductive RwX : PyData → Prop
  | row {ns : List Int} : ns.length ≤ 60 → RwX (tupD ns)
  | bad {ns : List Int} : ns.length ≤ 60 → RwX (.tuple (ns.map .int ++ [.bool true]))
  | int (i : Int) : RwX (.int i)
def LsX (x : PyData) : Prop := x = .none ∨ (∃ xs, x = .list xs) ∨ ∃ es, x = .tuple es ∧ es.length ≤ 10 ∧ ∀ e ∈ es, RwX e
theorem RwX.sm {e : PyData} (h : RwX e) : SmF e := by
  cases h with
  | row h => exact smf_tup (by omega)
  | bad h => exact smf_len (by simp; omega)
  | int i => exact smf_i
theorem LsX.sm {x : PyData} (h : LsX x) : SmL x := fun es e => by
  subst e
  rcases h with h | ⟨xs, h⟩ | ⟨es', h, hl, hr⟩
  · cases h
  · cases h
  · cases h
    exact ⟨by omega, fun r hr' => (hr r hr').sm⟩
/-! ### the promises -/
end Lm


/-! the first list that serves (k55, k20) -/
namespace Lm
open PySem PySem.Spec PyProof.Rows L2
/-! ### sets that grow, each ascending -/
def addF (acc row : List Int) : List Int := acc ++ row.filter fun x => !decide (x ∈ acc)
structure Grow (acc : List Int) (R : List (List Int)) : Prop where
  nd : acc.Nodup
  asc : ∀ S ∈ R, S.Pairwise (· < ·)
  sub : ∀ S ∈ R, ∀ x ∈ acc, x ∈ S
  pw : R.Pairwise fun S T => ∀ x ∈ S, x ∈ T
theorem asc_nd {S : List Int} (h : S.Pairwise (· < ·)) : S.Nodup := h.imp fun w e => by omega
theorem add_perm {acc S : List Int} (nd : acc.Nodup) (ns : S.Nodup) (sub : ∀ x ∈ acc, x ∈ S) : (addF acc S).Perm S := by
  unfold addF
  refine (List.perm_ext_iff_of_nodup ?_ ns).mpr fun x => ?_
  · rw [List.nodup_append]
    exact ⟨nd, ns.filter _, fun a ha b hb e => by
      have := (List.mem_filter.mp hb).2
      rw [e] at ha
      simp [ha] at this⟩
  · rw [List.mem_append, List.mem_filter]
    constructor
    · rintro (h | h)
      · exact sub x h
      · exact h.1
    · intro h
      by_cases q : x ∈ acc
      · exact .inl q
      · exact .inr ⟨h, by simp [q]⟩
theorem Grow.step {acc S : List Int} {R : List (List Int)} (h : Grow acc (S :: R)) : (addF acc S).Perm S ∧ Grow (addF acc S) R := by
  have p1 := List.pairwise_cons.mp h.pw
  have p := add_perm h.nd (asc_nd (h.asc S (by simp))) (h.sub S (by simp))
  exact ⟨p, ⟨p.nodup_iff.mpr (asc_nd (h.asc S (by simp))), fun T hT => h.asc T (by simp [hT]), fun T hT x hx => p1.1 T hT x (p.mem_iff.mp hx), p1.2⟩⟩
theorem Grow.fold : ∀ {R : List (List Int)} {acc : List Int}, Grow acc R → acc <+: R.foldl addF acc ∧ (R.foldl addF acc).Nodup ∧ (∀ S ∈ R, ((R.foldl addF acc).take S.length).Perm S) ∧ ∀ S, R.getLast? = some S → (R.foldl addF acc).Perm S
  | [], acc, h => ⟨List.prefix_refl _, h.nd, (fun S hS => nomatch hS), fun S hS => nomatch hS⟩
  | S :: R, acc, h => by
    obtain ⟨p, g⟩ := h.step
    obtain ⟨i1, i2, i3, i4⟩ := g.fold
    rw [List.foldl_cons]
    refine ⟨(List.prefix_append _ _).trans i1, i2, fun T hT => ?_, fun T hT => ?_⟩
    · rcases List.mem_cons.mp hT with w | w
      · obtain ⟨t, ht⟩ := i1
        rw [w, ← ht, List.take_append_of_le_length (by rw [p.length_eq]; exact Nat.le_refl _), List.take_of_length_le (by rw [p.length_eq]; exact Nat.le_refl _)]
        exact p
      · exact i3 T w
    · cases R with
      | nil =>
        have : T = S := by simpa using hT.symm
        rw [this]; exact p
      | cons U R => exact i4 T (by simpa using hT)
end Lm
namespace Lm
open PySem PySem.Spec PyProof.Rows L2
/-- sets of which any two are one in the other, by size -/
structure Chn (M : List (List Int)) : Prop where
  asc : ∀ S ∈ M, S.Pairwise (· < ·)
  sub : ∀ S ∈ M, ∀ T ∈ M, S.length ≤ T.length → ∀ x ∈ S, x ∈ T
theorem sort_mem {M : List (List Int)} {S : List Int} : S ∈ M.mergeSort lenI ↔ S ∈ M := (List.mergeSort_perm _ _).mem_iff
theorem sort_len (M : List (List Int)) : (M.mergeSort lenI).Pairwise fun S T => S.length ≤ T.length := by
  have := List.pairwise_mergeSort (le := lenI) (fun a b c h1 h2 => by unfold lenI at *; simp at *; omega) (fun a b => by unfold lenI; simp; omega) M
  exact this.imp fun h => by unfold lenI at h; simp at h; omega
theorem Chn.grow {M : List (List Int)} (h : Chn M) : Grow [] (M.mergeSort lenI) := ⟨List.nodup_nil, fun S hS => h.asc S (sort_mem.mp hS), (fun S _ x hx => nomatch hx), by
  have := sort_len M
  exact this.imp_of_mem fun {S T} hS hT l => h.sub S (sort_mem.mp hS) T (sort_mem.mp hT) l⟩
def slM (M : List (List Int)) : List Int := (M.mergeSort lenI).foldl addF []
theorem Chn.nd {M : List (List Int)} (h : Chn M) : (slM M).Nodup := h.grow.fold.2.1
theorem Chn.take {M : List (List Int)} (h : Chn M) {S : List Int} (hS : S ∈ M) : ((slM M).take S.length).Perm S := h.grow.fold.2.2.1 S (sort_mem.mpr hS)
/-! ### the first list of a rule (k55) -/
end Lm


/-! first lists of a table (k20, k21) -/
namespace Lm
open PySem PySem.Spec PyProof.Rows L2
/-! ### the full lists -/
def rngI (b : Nat) : List Int := (List.range b).map fun (i : Nat) => (i : Int)
theorem rngI_asc (b : Nat) : (rngI b).Pairwise (· < ·) := by
  unfold rngI
  rw [List.pairwise_map]
  exact List.pairwise_lt_range.imp fun w => by omega
theorem mem_rngI {b : Nat} {x : Int} : x ∈ rngI b ↔ 0 ≤ x ∧ x < b := by
  unfold rngI
  rw [List.mem_map]
  constructor
  · rintro ⟨i, hi, rfl⟩
    have := List.mem_range.mp hi
    omega
  · intro h
    exact ⟨x.toNat, List.mem_range.mpr (by omega), by omega⟩
theorem Chn.full {M : List (List Int)} {b : Nat} (h : Chn M) (hM : ∀ S ∈ M, ∀ x ∈ S, 0 ≤ x ∧ x < b) : Grow [] (M.mergeSort lenI ++ [rngI b]) := by
  have g := h.grow
  refine ⟨List.nodup_nil, fun S hS => ?_, (fun S _ x hx => nomatch hx), ?_⟩
  · rcases List.mem_append.mp hS with w | w
    · exact g.asc S w
    · rw [List.mem_singleton.mp w]; exact rngI_asc b
  · rw [List.pairwise_append]
    refine ⟨g.pw, List.pairwise_singleton .., fun S hS T hT x hx => ?_⟩
    rw [List.mem_singleton.mp hT]
    exact mem_rngI.mpr (hM S (sort_mem.mp hS) x hx)
/-! ### the promises -/
end Lm


/-! defs that answer or raise: promises, and what raises within a body -/
namespace Lm
open PySem PySem.Spec PyProof.Rows L2
section
variable {K : PySem.W.Frag} {C : Addr} {H0 : Hp} {Γ : List (Option Rs)} {σ : L2.St} {te tf : TE} {ta : TA} {tt : TT} {t u : TS} {k kb : Kd} {d x : PyData} {n : Nat} {nm : Str} {ds : List PyData} {R : List PyData → Str → Prop} {sp : Sp} {E : XK} {W : L2.St → XK} {a : Bool}
/-! under try, where nothing is assigned -/
end
/-- a slice of a list that stays -/
theorem e_slLV {c : Ct} {tl th : TO} {lo hi : Option Int} (h : Ev c te Γ .v (.list ds)) (h1 : Eo c tl Γ lo) (h2 : Eo c th Γ hi) : Ev c (tSl (rSlU c.K) te tl th) Γ .v (.list (Lm.cutD ds lo hi)) := fun H0 O H σ e Q q =>
  h H0 O H σ e _ fun v H1 r1 s1 => h1 H0 O H1 σ (e.on r1) _ fun H2 r2 => h2 H0 O H2 σ ((e.on r1).on r2) _ fun H3 r3 => .inr <| by
    have r : Rr c H H3 := (r1.tr r2).tr r3
    have bv : Bo c (mns H3 O) v (.list ds) := Res.on (k := .v) e r1 (r2.tr r3) s1
    obtain ⟨p, xs, rfl, _, s, al⟩ := bv.lst'
    refine ⟨p, xs, rfl, mns_same.seq s, fun p' hp => ?_⟩
    exact q _ _ (r.tr (Rr.same fun b u z => by rw [upd_ne (ne_of_none z hp)]; exact z)) (newV (H := H) (e.on r) al.cut hp)
/-! ### who raises what -/
/-! ### k26 -/
end Lm


/-! what lists give, told or refused (k22) -/
namespace Lm
open PySem PySem.Spec PyProof.Rows L2
section
variable {K : PySem.W.Frag} {C : Addr} {σ : L2.St} {nm : Str}
end
/-! ### any value as an allocation -/
def balB (x : PyData) : Bool := areInts x 0 20 && ((decide (1 ≤ lenT x) && decide (lenT x ≤ 5)) && decide (sumT x ≤ 20))
theorem Alc.bal {ns : List Int} {v b : Int} (h : Alc ns v b) (v1 : 1 ≤ v) (v5 : v ≤ 5) (b20 : b ≤ 20) : balB (tupD ns) = true := by
  have l := h.len
  unfold balB
  rw [areInts_of fun n hn => ⟨h.nn n hn, by have := h.le n hn; omega⟩, lenT_ints, sumT_ints, h.sum, decide_eq_true (show 1 ≤ ns.length by omega), decide_eq_true (show ns.length ≤ 5 by omega), decide_eq_true b20]
  rfl
def sp_is_bounded_allocationX (K : PySem.W.Frag) : Sp := spD K fun ds k d => ∃ x, ds = [x] ∧ SmallT x ∧ k = .v ∧ d = .bool (balB x)
/-! ### what is due -/
/-! ### lists of distinct buckets -/
structure Dst (r : List Int) : Prop where
  nd : r.Nodup
  rg : ∀ x ∈ r, 0 ≤ x ∧ x < 20
theorem Dst.len {r : List Int} (h : Dst r) : r.length ≤ 20 := by
  have := List.Nodup.length_le_of_subset (l₁ := r) (l₂ := rngI 20) h.nd fun x hx => by
    have := h.rg x hx
    exact mem_rngI.mpr (by omega)
  unfold rngI at this
  simpa using this
end Lm


/-! a comprehension of two clauses -/
namespace Lm
open PySem PySem.Spec PyProof.Rows L2
section
variable {c : Ct} {H H' H0 H1 H2 H3 H4 : Hp} {O : List Addr} {σ σ1 : L2.St} {Γ Γ1 Γ' : List (Option Rs)} {te : TE} {fz : Bool} {k : Kd} {u : TS} {P : Out → Prop} {n : Nat}
theorem Reps.bareM {fp : List Addr} {D : Addr} (j : Ji c (mns H O)) (rm : Rr c (mns H O) (mns H' O)) (h : Reps c O H σ Γ fp) : bareB Γ = true → Reps c O H' σ Γ [] := by
  induction h with
  | nil => intro _; exact .nil
  | @cons x s f fs σ Γ a b ih =>
    intro hb
    cases s with
    | none => exact .cons (f := []) (fs := []) rfl (ih hb)
    | some s =>
      cases s with
      | o d => cases hb
      | d u => cases hb
      | w ds => cases hb
      | v d =>
        obtain ⟨_, v, hv, bo⟩ := a
        exact .cons (f := []) (fs := []) ⟨rfl, v, hv, bo.mono j rm⟩ (ih hb)
      | r y => exact .cons (f := []) (fs := []) ⟨rfl, a.2⟩ (ih hb)
end
end Lm
namespace Lm
open PySem PySem.Spec PyProof.Rows L2
/-! ### all tables of a plan (k39 to k43, k52) -/
def stepT (b : Nat) (rows : List (List (List Int))) (a : List Int) : List (List (List Int)) := rows.flatMap fun t => (asgN a b).map fun r => t ++ [r]
def tbF (b : Nat) (rows : List (List (List Int))) (A : List (List Int)) : List (List (List Int)) := A.foldl (stepT b) rows
/-- which tables there are -/
theorem mem_tbF {b : Nat} : ∀ {A : List (List Int)} {t : List (List Int)}, t ∈ tbF b [[]] A ↔ t.length = A.length ∧ ∀ i < A.length, t.getD i [] ∈ asgN (A.getD i []) b := by
  have gen : ∀ {A : List (List Int)} {rows : List (List (List Int))} {t : List (List Int)}, t ∈ tbF b rows A ↔ ∃ p ∈ rows, ∃ s, t = p ++ s ∧ s.length = A.length ∧ ∀ i < A.length, s.getD i [] ∈ asgN (A.getD i []) b := by
    intro A
    induction A with
    | nil =>
      intro rows t
      constructor
      · intro h
        exact ⟨t, h, [], by simp, rfl, by simp⟩
      · rintro ⟨p, hp, s, rfl, hs, _⟩
        have : s = [] := List.length_eq_zero_iff.mp hs
        subst this
        rw [List.append_nil]
        exact hp
    | cons a A ih =>
      intro rows t
      show t ∈ tbF b (stepT b rows a) A ↔ _
      rw [ih]
      constructor
      · rintro ⟨p, hp, s, rfl, hs, hm⟩
        obtain ⟨p0, hp0, hp1⟩ := List.mem_flatMap.mp hp
        obtain ⟨r, hr, rfl⟩ := List.mem_map.mp hp1
        refine ⟨p0, hp0, r :: s, by simp, by simp [hs], fun i hi => ?_⟩
        cases i with
        | zero => exact hr
        | succ i => exact hm i (by simpa using hi)
      · rintro ⟨p, hp, s, rfl, hs, hm⟩
        cases s with
        | nil => simp at hs
        | cons r s =>
          exact ⟨p ++ [r], List.mem_flatMap.mpr ⟨p, hp, List.mem_map.mpr ⟨r, hm 0 (by simp), rfl⟩⟩, s, by simp, by simpa using hs, fun i hi => hm (i + 1) (by simpa using hi)⟩
  intro A t
  rw [gen]
  constructor
  · rintro ⟨p, hp, s, rfl, h1, h2⟩
    rw [List.mem_singleton.mp hp]
    exact ⟨h1, h2⟩
  · rintro ⟨h1, h2⟩
    exact ⟨[], by simp, t, rfl, h1, h2⟩
/-! ### buckets may be told in another order -/
/-- what is found behind any start is found behind the ascending one -/
theorem Tbl.of {A : List (List Int)} {v b : Int} {s : List Int} {t : List (List Int)} (hA : Ser A v b) (hs : s ∈ asgN (A.getD 0 []) b.toNat) (ht : t ∈ tbF b.toNat [[]] (A.drop 1)) : Tbl (s :: t) A v b := by
  obtain ⟨h1, h2⟩ := mem_tbF.mp ht
  have l1 := hA.l1
  rw [List.length_drop] at h1 h2
  have okp : ∀ {a r : List Int}, Alc a v b → r ∈ asgN a b.toNat → OkP (a, r) v b := fun {a r} ha hr => by
    obtain ⟨c1, c2, c3⟩ := asgN_cnt ha hr
    exact ⟨ha, c1, c2, c3⟩
  refine ⟨hA, by rw [List.length_cons]; omega, fun i hi => ?_⟩
  cases i with
  | zero => exact okp (hA.alc _ (gL_mem hi)) hs
  | succ i =>
    have := h2 i (by omega)
    have e : (A.drop 1).getD i [] = A.getD (i + 1) [] := by simp [List.getD_eq_getElem?_getD, Nat.add_comm]
    rw [e] at this
    exact okp (hA.alc _ (gL_mem hi)) this
/-! ### how many there are -/
/-! ### the promises -/
/-! ### plans that go round -/
end Lm


/-! assignments that are laid out by cores -/
namespace Lm
open PySem PySem.Spec PyProof.Rows L2
variable {v b : Int} {as bs cs ms : List Int} {z : List (Int × Int)} {p q : List (Option Int)}
def preR : List (Int × Int) → Nat → List (Option Int)
  | [], _ => []
  | (s, c) :: r, i => List.replicate (min s c).toNat (some (i : Int)) ++ (List.replicate (c - s).toNat none ++ preR r (i + 1))
def overR : List (Int × Int) → Nat → List Int
  | [], _ => []
  | (s, c) :: r, i => List.replicate (s - c).toNat (i : Int) ++ overR r (i + 1)
def fullR (z : List (Int × Int)) (m : Nat) : List (Option Int) := preR z 0 ++ List.replicate (m - (preR z 0).length) none
theorem pre_len : ∀ {z : List (Int × Int)} {i : Nat}, (∀ p ∈ z, 0 ≤ p.1 ∧ 0 ≤ p.2) → ((preR z i).length : Int) = (z.map (·.2)).sum
  | [], _, _ => rfl
  | (s, c) :: r, i, h => by
    have h0 := h (s, c) (by simp)
    have ih := pre_len (z := r) (i := i + 1) fun p hp => h p (List.mem_cons_of_mem _ hp)
    unfold preR
    simp only [List.length_append, List.length_replicate, List.map_cons, List.sum_cons, Int.natCast_add, ih]
    simp only at h0
    omega
theorem pre_none : ∀ {z : List (Int × Int)} {i : Nat}, ((preR z i).count none : Int) = (z.map fun p => max (p.2 - p.1) 0).sum
  | [], _ => rfl
  | (s, c) :: r, i => by
    have ih := pre_none (z := r) (i := i + 1)
    unfold preR
    simp only [List.count_append, List.count_replicate, List.map_cons, List.sum_cons, Int.natCast_add, ih]
    have e : ((some (i : Int)) == none) = false := rfl
    simp only [e]
    simp
    try omega
theorem over_len : ∀ {z : List (Int × Int)} {i : Nat}, ((overR z i).length : Int) = (z.map fun p => max (p.1 - p.2) 0).sum
  | [], _ => rfl
  | (s, c) :: r, i => by
    have ih := over_len (z := r) (i := i + 1)
    unfold overR
    simp only [List.length_append, List.length_replicate, List.map_cons, List.sum_cons, Int.natCast_add, ih]
    omega
theorem zip_nn (h1 : ∀ n ∈ as, 0 ≤ n) (h2 : ∀ n ∈ cs, 0 ≤ n) : ∀ p ∈ as.zip cs, 0 ≤ p.1 ∧ 0 ≤ p.2 := fun p hp => ⟨h1 _ (List.of_mem_zip hp).1, h2 _ (List.of_mem_zip hp).2⟩
theorem zip_2 : ∀ {as cs : List Int}, as.length = cs.length → (as.zip cs).map (·.2) = cs
  | [], [], _ => rfl
  | a :: as, c :: cs, h => by rw [List.zip_cons_cons, List.map_cons, zip_2 (by simpa using h)]
  | [], _ :: _, h => by simp at h
  | _ :: _, [], h => by simp at h
theorem zip_mm : ∀ {as cs : List Int}, as.length = cs.length → ((as.zip cs).map fun p => max (p.1 - p.2) 0).sum - ((as.zip cs).map fun p => max (p.2 - p.1) 0).sum = as.sum - cs.sum
  | [], [], _ => rfl
  | a :: as, c :: cs, h => by
    have := zip_mm (as := as) (cs := cs) (by simpa using h)
    simp only [List.zip_cons_cons, List.map_cons, List.sum_cons]
    omega
  | [], _ :: _, h => by simp at h
  | _ :: _, [], h => by simp at h
/-- cores for an allocation -/
structure Crs (as cs : List Int) (v b : Int) : Prop where
  a : Alc as v b
  len : cs.length = as.length
  nn : ∀ n ∈ cs, 0 ≤ n
  le : cs.sum ≤ b
theorem Crs.full (h : Crs as cs v b) : (fullR (as.zip cs) as.sum.toNat).length = b.toNat ∧ ((preR (as.zip cs) 0).length : Int) = cs.sum := by
  have l := pre_len (i := 0) (zip_nn h.a.nn h.nn)
  rw [zip_2 h.len.symm] at l
  have := h.le
  have := h.a.sum
  unfold fullR
  rw [List.length_append, List.length_replicate]
  exact ⟨by omega, l⟩
theorem Crs.bal (h : Crs as cs v b) : (fullR (as.zip cs) as.sum.toNat).count none = (overR (as.zip cs) 0).length := by
  have l := h.full.2
  have n := pre_none (z := as.zip cs) (i := 0)
  have o := over_len (z := as.zip cs) (i := 0)
  have m := zip_mm h.len.symm
  have := h.le
  have := h.a.sum
  unfold fullR
  rw [List.count_append, List.count_replicate_self]
  omega
/-! ### cores that give up what the medians are too many -/
end Lm


/-! xs[i] = ys.pop(k); [rows[x].pop(0) for x in ..] -/
namespace Lm
open PySem PySem.Spec PyProof.Rows L2
section
variable {c : Ct} {H H' H0 H1 H2 H3 : Hp} {O : List Addr} {σ : L2.St} {Γ Γ' Γ1 : List (Option Rs)}
variable {te ta tb tx : TE} {tr : TA} {u : TS} {k ka kb : Kd} {d x y z : PyData} {i j : Int} {ds es : List PyData} {P : Out → Prop}
theorem Env.bareR (e : Env c H0 O H σ Γ) (hb : bareB Γ = true) : Reps c O H σ Γ [] := let ⟨_, hr, _⟩ := e.rep; hr.bareM (D := 0) e.j Rr.rf hb
theorem Env.take (e : Env c H0 O H σ Γ) (hb : bareB Γ = true) {n : Nat} {a : Addr} {ns : List Int} (ha : a ∈ O) (h : H a = some (.lst (ns.map V.int))) : Env c H0 O H (σ.set n (some (.ref a))) (Γ.set n (some (.o (.list (ns.map .int))))) := by
  have hr := e.bareR hb
  refine ⟨e.r0, e.j, e.fr, e.dm, ?_⟩
  by_cases hi : n < Γ.length
  · obtain ⟨x, f, pre, post, h1, h2, h3, h4⟩ := hr.nth (s := Γ[n]) (List.getElem?_eq_getElem hi)
    have h3' := h3.symm
    rw [List.append_eq_nil_iff, List.append_eq_nil_iff] at h3'
    obtain ⟨rfl, rfl, rfl⟩ := h3'
    exact ⟨[a], h4 O H _ _ [a] (fun _ _ _ _ z => z) ⟨.ref a, rfl, .lst h (FoAll.leaves (flatAll_ints _) (BoAll.ofInts _))⟩, by simp, fun b hb => by cases List.mem_singleton.mp hb; exact ha⟩
  · have hs : ¬ n < σ.length := by rw [hr.len]; exact hi
    rw [List.set_eq_of_length_le (by omega), List.set_eq_of_length_le (by omega)]
    exact ⟨[], hr, List.nodup_nil, fun a h => nomatch h⟩
/-! ### rows from which the first ones are taken -/
end
end Lm


/-! itertools.combinations(list, k) -/
namespace CmbK
open PySem PySem.Spec PyProof.Rows L2
end CmbK


/-! min of a list, max of a tuple, of any data that can be compared -/
namespace Lm
open PySem PySem.Spec PyProof.Rows L2
theorem dp_item {X : Cx} {pins : List (Addr × Obj)} {σ : L2.St} {H : Hp} {s : Shared} (I : Inv X pins σ H s) {xs : List V} {us : List Value} {ds : List PyData} {i : Nat} {u : Value} {m : PyData} {h' : Heap} {bs : List Addr} (hd : DpAll X.K H xs ds) (rv : Vals xs us) (hu : us[i]? = some u) (rm : Reads h' u m bs) (k : ∀ b o, s.heap.get? b = some o → h'.get? b = some o) : ∃ q ∈ xs.zip ds, q.2 = m ∧ RelV q.1 u := by
  have lx := dpAll_len hd
  have lu := rv.length
  have iu := (List.getElem?_eq_some_iff.mp hu).1
  obtain ⟨x, hx⟩ : ∃ x, xs[i]? = some x := ⟨_, List.getElem?_eq_getElem (by omega)⟩
  obtain ⟨u1, hu1, rx⟩ := rv.get hx
  rw [hu] at hu1
  cases Option.some.inj hu1
  obtain ⟨d, hdi⟩ : ∃ d, ds[i]? = some d := ⟨_, List.getElem?_eq_getElem (by omega)⟩
  obtain ⟨as, ra⟩ := Dp.readsAll I ds xs us hd rv
  obtain ⟨bs1, r1, _, _, _⟩ := PySem.W.readsAll_at ra i u hu
  rw [List.getD_eq_getElem?_getD, hdi, Option.getD_some] at r1
  have e := (Reads.unique (PySem.W.reads_keeps k r1) _ _ rm).1
  refine ⟨(x, d), ?_, e, rx⟩
  exact List.mem_of_getElem? (i := i) (List.getElem?_zip_eq_some (z := (x, d)).mpr ⟨hx, hdi⟩)
section
variable {X : Cx}
end
section
variable {c : Ct} {Γ : List (Option Rs)} {te : TE} {k : Kd}
end
end Lm


/-! calm histories, all of them, in order (k48) -/
namespace Lm
open PySem PySem.Spec PyProof.Rows L2
variable {v b : Int} {s : List Int} {A : List (List Int)} {k : Nat} {t : List (List Int)} {r : List Int}
/-- tables in order -/
def TLe : List (List Int) → List (List Int) → Prop
  | [], [] => True
  | a :: h, b :: t => (a.length = b.length ∧ lexLe a b ∧ a ≠ b) ∨ (a = b ∧ TLe h t)
  | _, _ => False
theorem TLe.rf : ∀ {h : List (List Int)}, TLe h h
  | [] => trivial
  | _ :: _ => .inr ⟨rfl, TLe.rf⟩
end Lm


/-! the first colouring: x = xs.pop() + 1, the search, its end (k65, k67) -/
namespace Lm
open PySem PySem.Spec PyProof.Rows L2
section
variable {c : Ct} {Γ : List (Option Rs)} {P : Out → Prop} {u : TS}
end
/-! ### colourings, in order -/
/-- what coexists has different numbers -/
def okC (tg : Nat → Nat → Bool) (c : List Nat) : Bool := (List.range c.length).all fun k => (List.range k).all fun j => !(decide (c.getD j 0 = c.getD k 0) && tg k j)
/-- c, as far as it goes, is not behind d -/
def PLe : List Nat → List Nat → Prop
  | [], _ => True
  | _ :: _, [] => False
  | a :: c, x :: d => a < x ∨ (a = x ∧ PLe c d)
/-- c is before d, at some place that both have -/
def PLt : List Nat → List Nat → Prop
  | a :: c, x :: d => a < x ∨ (a = x ∧ PLt c d)
  | _, _ => False
theorem ple_split : ∀ {c d : List Nat} {p : Nat}, PLe (c ++ [p]) d → (∃ x r, d = c ++ x :: r ∧ p ≤ x) ∨ PLt c d
  | [], [], p, h => h.elim
  | [], x :: d, p, h => by
    rcases h with h | ⟨h, _⟩
    · exact .inl ⟨x, d, rfl, by omega⟩
    · exact .inl ⟨x, d, rfl, by omega⟩
  | a :: c, [], p, h => h.elim
  | a :: c, x :: d, p, h => by
    rcases h with h | ⟨rfl, h⟩
    · exact .inr (.inl h)
    · rcases ple_split h with ⟨y, r, rfl, w⟩ | w
      · exact .inl ⟨y, r, rfl, w⟩
      · exact .inr (.inr ⟨rfl, w⟩)
theorem plt_snoc : ∀ {c d : List Nat} {a : Nat}, PLt (c ++ [a]) d → PLe (c ++ [a + 1]) d
  | [], [], _, h => h.elim
  | [], x :: d, a, h => by
    rcases h with h | ⟨_, h⟩
    · by_cases e : a + 1 = x
      · exact .inr ⟨e, trivial⟩
      · exact .inl (by omega)
    · cases d <;> exact h.elim
  | b :: c, [], _, h => h.elim
  | b :: c, x :: d, a, h => by
    rcases h with h | ⟨e, h⟩
    · exact .inl h
    · exact .inr ⟨e, plt_snoc h⟩
theorem plt_app : ∀ {c d r : List Nat}, PLt c d → PLe (c ++ r) d
  | [], _, _, h => h.elim
  | a :: c, [], _, h => h.elim
  | a :: c, x :: d, r, h => by
    rcases h with h | ⟨e, h⟩
    · exact .inl h
    · exact .inr ⟨e, plt_app h⟩
theorem ple_pre : ∀ {c d r : List Nat}, d = c ++ r → PLe c d
  | [], _, _, _ => trivial
  | a :: c, _, r, rfl => .inr ⟨rfl, ple_pre rfl⟩
theorem ple_at {c r : List Nat} {x b : Nat} (h : b ≤ x) : PLe (c ++ [b]) (c ++ x :: r) := by
  induction c with
  | nil =>
    by_cases e : b = x
    · exact .inr ⟨e, trivial⟩
    · exact .inl (by omega)
  | cons a c ih => exact .inr ⟨rfl, ih⟩
theorem ple_zero : ∀ {c d : List Nat}, PLe c d → c.length < d.length → PLe (c ++ [0]) d
  | [], [], _, h => by simp at h
  | [], x :: d, _, _ => by
    by_cases e : 0 = x
    · exact .inr ⟨e, trivial⟩
    · exact .inl (by omega)
  | a :: c, [], h, _ => h.elim
  | a :: c, x :: d, h, l => by
    rcases h with h | ⟨e, h⟩
    · exact .inl h
    · exact .inr ⟨e, ple_zero h (by simpa using l)⟩
theorem plt_ple : ∀ {c d : List Nat}, PLt c d → PLe c d
  | [], _, h => h.elim
  | a :: c, [], h => h.elim
  | a :: c, x :: d, h => by
    rcases h with h | ⟨e, h⟩
    · exact .inl h
    · exact .inr ⟨e, plt_ple h⟩
variable {n m : Nat} {tg : Nat → Nat → Bool} {c d : List Nat}
theorem okC_iff : okC tg c = true ↔ ∀ k, k < c.length → ∀ j, j < k → c.getD j 0 = c.getD k 0 → tg k j = false := by
  unfold okC
  rw [List.all_eq_true]
  constructor
  · intro h k hk j hj e
    have := List.all_eq_true.mp (h k (List.mem_range.mpr hk)) j (List.mem_range.mpr hj)
    rw [decide_eq_true e, Bool.true_and, Bool.not_eq_true'] at this
    exact this
  · intro h k hk
    refine List.all_eq_true.mpr fun j hj => ?_
    by_cases e : c.getD j 0 = c.getD k 0
    · rw [h k (List.mem_range.mp hk) j (List.mem_range.mp hj) e, Bool.and_false]; rfl
    · rw [decide_eq_false e, Bool.false_and]; rfl
theorem gd_app {c r : List Nat} {j : Nat} (h : j < c.length) : (c ++ r).getD j 0 = c.getD j 0 := by
  rw [List.getD_eq_getElem?_getD, List.getElem?_append_left h, ← List.getD_eq_getElem?_getD]
theorem okC_pre {r : List Nat} (h : okC tg (c ++ r) = true) : okC tg c = true := okC_iff.mpr fun k hk j hj e => okC_iff.mp h k (by simp; omega) j hj (by rw [gd_app (by omega), gd_app hk]; exact e)
/-! ### the search, place by place -/
/-- where the search stands: c so far, numbers from p on are tried next -/
structure SrC (n m : Nat) (tg : Nat → Nat → Bool) (c : List Nat) (p : Nat) : Prop where
  len : c.length ≤ n
  rng : ∀ x ∈ c, x < m
  ok : okC tg c = true
  pm : p ≤ m
  le : ∀ d, d.length = n → (∀ x ∈ d, x < m) → okC tg d = true → PLe c d ∧ (c.length < n → PLe (c ++ [p]) d)
/-- the first number from p on that fits -/
def freC (tg : Nat → Nat → Bool) (c : List Nat) (p m : Nat) : Option Nat := ((List.range (m - p)).map (· + p)).find? fun b => okC tg (c ++ [b])
theorem freC_none {p : Nat} (h : freC tg c p m = none) {b : Nat} (h1 : p ≤ b) (h2 : b < m) : okC tg (c ++ [b]) = false := by
  unfold freC at h
  have := List.find?_eq_none.mp h b (List.mem_map.mpr ⟨b - p, List.mem_range.mpr (by omega), by omega⟩)
  exact Bool.eq_false_iff.mpr this
theorem freC_some {p b : Nat} (h : freC tg c p m = some b) : p ≤ b ∧ b < m ∧ okC tg (c ++ [b]) = true ∧ ∀ q, p ≤ q → q < b → okC tg (c ++ [q]) = false := by
  unfold freC at h
  obtain ⟨hok, i, hi, e, no⟩ := List.find?_eq_some_iff_getElem.mp h
  have hi' : i < m - p := by simpa using hi
  have e' : i + p = b := by simpa using e
  refine ⟨by omega, by omega, hok, fun q h1 h2 => ?_⟩
  have := no (q - p) (by omega)
  simp only [List.getElem_map, List.getElem_range] at this
  rw [show q - p + p = q by omega, Bool.not_eq_true'] at this
  exact this
theorem SrC.go {p b : Nat} (h : SrC n m tg c p) (hl : c.length < n) (f : freC tg c p m = some b) : SrC n m tg (c ++ [b]) 0 := by
  obtain ⟨f1, f2, f3, f4⟩ := freC_some f
  refine ⟨by simp; omega, fun x hx => ?_, f3, Nat.zero_le _, fun d h1 h2 h3 => ?_⟩
  · rcases List.mem_append.mp hx with w | w
    · exact h.rng x w
    · rw [List.mem_singleton.mp w]; exact f2
  · have key : PLe (c ++ [b]) d := by
      rcases ple_split ((h.le d h1 h2 h3).2 hl) with ⟨x, r, rfl, hx⟩ | w
      · refine ple_at (Nat.le_of_not_lt fun lt => ?_)
        have := f4 x hx lt
        rw [okC_pre (c := c ++ [x]) (r := r) (by simpa using h3)] at this
        cases this
      · exact plt_app w
    refine ⟨key, fun l => ple_zero key (by omega)⟩
theorem SrC.back {a : Nat} {p : Nat} (h : SrC n m tg (c ++ [a]) p) (hl : (c ++ [a]).length < n) (f : freC tg (c ++ [a]) p m = none) : SrC n m tg c (a + 1) := by
  have am := h.rng a (by simp)
  have cl : c.length < n := by simp at hl; omega
  refine ⟨by omega, fun x hx => h.rng x (by simp [hx]), okC_pre h.ok, by omega, fun d h1 h2 h3 => ?_⟩
  have key : PLe (c ++ [a + 1]) d := by
    rcases ple_split ((h.le d h1 h2 h3).2 hl) with ⟨x, r, rfl, hx⟩ | w
    · have xm := h2 x (by simp)
      have := freC_none f hx xm
      rw [okC_pre (c := (c ++ [a]) ++ [x]) (r := r) (by simpa using h3)] at this
      cases this
    · exact plt_snoc w
  refine ⟨?_, fun _ => key⟩
  rcases ple_split key with ⟨x, r, e, hx⟩ | w
  · exact ple_pre e
  · exact plt_ple w
end Lm


/-! lists for all shares with a total: promises (k67) -/
namespace Lm
open PySem PySem.Spec PyProof.Rows L2
theorem castL_app (a b : List Nat) : castL (a ++ b) = castL a ++ castL b := by simp [castL]
end Lm


/-! raise C("..") of any class that keeps a text; promises of fewest (k65) -/
namespace Lm
open PySem PySem.Spec PyProof.Rows L2
section
variable {c : Ct} {Γ : List (Option Rs)} {te : TE} {P : Out → Prop} {ds : List PyData} {d : PyData} {n m : Nat}
end
section
variable {c : Ct} {H0 : Hp} {Γ : List (Option Rs)} {K : PySem.W.Frag}
end
theorem EvI.to {c : Ct} {wi : TI} {Γ : List (Option Rs)} {fz : Bool} {a b : List Im} (h : EvI c wi Γ fz a) (e : a = b) : EvI c wi Γ fz b := e ▸ h
end Lm


/-! a, b = xs.pop(); enumerate of a list or a tuple; promises of fewest and of case trees (k65) -/
namespace Lm
open PySem PySem.Spec PyProof.Rows L2
theorem k_notT {X : Cx} {K : PySem.W.Frag} (hK : X.K = K) {a : Expr} {ta : TE} {pos : Pos} (ha : PE X a ta) : PE X (.UnaryOp .Not a pos) (tNotT K ta) := hK ▸ pe_notT ha
section
variable {c : Ct} {Γ : List (Option Rs)} {P : Out → Prop} {u : TS} {g : TG}
theorem e_notL {te : TE} {k : Kd} {ds : List PyData} (h : Ev c te Γ k (.list ds)) : Ev c (tNotT c.K te) Γ .v (.bool ds.isEmpty) := fun H0 O H σ e Q q =>
  h H0 O H σ e _ fun v H1 r s => by
    obtain ⟨p, xs, rfl, _, sl, al⟩ := (Res.bo e s).lst'
    have hl := al.len
    refine ⟨!xs.isEmpty, .inl ⟨xs, sl, rfl⟩, ?_⟩
    have : (!!xs.isEmpty) = ds.isEmpty := by
      cases xs <;> cases ds <;> simp at hl ⊢
    rw [this]
    exact q _ H1 r (.bl _)
end
/-! ### the answer of fewest -/
/-! ### case trees: a clique at the root -/
end Lm


/-! calls with drawn arguments; the populations of k68 -/
namespace Lm
open PySem PySem.Spec PyProof.Rows L2
/-- arguments, read at once, some of them drawn -/
def EvAP (c : Ct) (ta : TA) (Γ : List (Option Rs)) (Pd : List PyData → Prop) : Prop :=
  ∀ H0 O H σ, Env c H0 O H σ Γ → ∀ Q : List V → Hp → Prop, (∀ vs ds H2, Pd ds → Rr c H H2 → BoAll c H2 vs ds → Q vs H2) → ta σ H Q
section
variable {c : Ct} {Γ : List (Option Rs)} {te ta tb : TE} {tr : TA} {k ka kb : Kd} {d : PyData} {ds : List PyData} {P : PyData → Prop} {P2 Pd : List PyData → Prop}
theorem ap_nil : EvAP c tNil Γ (fun ds => ds = []) := fun H0 O H σ e Q q => q [] [] H rfl Rr.rf .nil
theorem ap_consN (h : EvN c te Γ k P) (t : EvAP c tr Γ P2) : EvAP c (tCons te tr) Γ (fun ds => ∃ d es, ds = d :: es ∧ P d ∧ P2 es) := fun H0 O H σ e Q q =>
  h H0 O H σ e _ fun v d H1 pd r1 s1 => t H0 O H1 σ (e.on r1) _ fun vs es H2 pe r2 s2 =>
    q (v :: vs) (d :: es) H2 ⟨d, es, rfl, pd, pe⟩ (r1.tr r2) (.cons (Res.bo e (s1.on e r1 r2)) s2)
theorem n_callP {pre : PreS} {E : XK} {st l : Addr} {n : Nat} (hc : c.so = some (st, l)) (hst : Γ[n]? = some (some (.r (.ref st)))) (h : EvAP c tr Γ Pd) (hp : ∀ ds, Pd ds → pre ds k P) :
    EvN c (tCall (spS c.K pre) [] E (tCons (tVar n) tr)) Γ k P := fun H0 O H σ e Q q => by
  have hcc : c = sc c.K st l := by cases c; cases hc; rfl
  refine ⟨_, e.slotR hst, h H0 O H σ e _ fun vs ds H1 pd r s => ?_⟩
  refine ⟨st, l, vs, ds, k, P, by simp, (e.on r).jH st l hc, by rw [← hcc]; exact s, hp ds pd, fun v d H2 pd r2 rt => ?_⟩
  rw [← hcc] at r2 rt
  refine q v d H2 pd (r.tr r2) ?_
  exact (Rt.res (e.on r) r2 rt).back e r
end
end Lm


/-! things grouped in a dict of lists (k72, k74) -/
namespace Lm
open PySem PySem.Spec PyProof.Rows L2
/-! ### groups -/
abbrev GE := (Int × Int) × List Int
abbrev GA := GE × Addr
/-- the lists of the groups, each one's own -/
structure Grp (F : Hp) (O : List Addr) (H : Hp) (G : List GA) : Prop where
  nd : (G.map (·.2)).Nodup
  fr : ∀ g ∈ G, F g.2 = none ∧ g.2 ∉ O
  lst : ∀ g ∈ G, H g.2 = some (.lst (g.1.2.map V.int))
theorem Grp.on {F H H' : Hp} {O : List Addr} {G : List GA} (h : Grp F O H G) (sm : ∀ g ∈ G, H' g.2 = H g.2) : Grp F O H' G := ⟨h.nd, h.fr, fun g hg => by rw [sm g hg]; exact h.lst g hg⟩
/-! ### one turn: moving.setdefault((old, new), []).append(bucket) -/
end Lm


/-! a tuple of what other defs return, where no list of one's own is about; wrong arguments of thresholds (k74) -/
namespace Lm
open PySem PySem.Spec PyProof.Rows L2
section
variable {c : Ct} {H H' H0 H1 H2 : Hp} {O : List Addr} {σ : L2.St} {Γ : List (Option Rs)} {te : TE} {tr : TA} {k : Kd} {u : TS} {n : Nat} {P : PyData → Prop} {P' : Out → Prop} {Pd : List PyData → Prop}
end
section
variable {K : PySem.W.Frag} {C : Addr}
end
/-! good and wrong arguments -/
end Lm
namespace Lm
open PySem PySem.Spec PyProof.Rows L2
/-- any item of a list that is told whole -/
theorem pickL {P : PyData → Prop} {ds : List PyData} {m : Nat} (hl : ds.length = m) (h : ∀ d ∈ ds, P d) : ∀ i : Int, (0 ≤ i ∧ i < (m : Int)) → ∃ d, atI ds i = some d ∧ P d := fun i ⟨i0, i1⟩ => by
  obtain ⟨j, rfl⟩ := Int.eq_ofNat_of_zero_le i0
  have hj : j < ds.length := by omega
  exact ⟨ds[j], atI_nat (List.getElem?_eq_getElem hj), h _ (List.getElem_mem hj)⟩
end Lm


namespace Lm
/-! nearest allocations (k04): what is rounded up and down -/
def sR (n : Nat) (f : Nat → Int) : Int := ((List.range n).map f).sum
theorem sR_succ {n : Nat} {f : Nat → Int} : sR (n + 1) f = sR n f + f n := by
  unfold sR; rw [List.range_succ, List.map_append, List.sum_append]; simp
theorem sR_le {n : Nat} {f g : Nat → Int} (h : ∀ k < n, f k ≤ g k) : sR n f ≤ sR n g := by
  induction n with
  | zero => exact Int.le_refl _
  | succ n ih => rw [sR_succ, sR_succ]; have := ih fun k hk => h k (by omega); have := h n (by omega); omega
theorem sR_add {n : Nat} {f g : Nat → Int} : sR n (fun k => f k + g k) = sR n f + sR n g := by
  induction n with
  | zero => rfl
  | succ n ih => rw [sR_succ, sR_succ, sR_succ, ih]; omega
theorem sR_mul {n : Nat} {f : Nat → Int} {a : Int} : sR n (fun k => a * f k) = a * sR n f := by
  induction n with
  | zero => exact (Int.mul_zero a).symm
  | succ n ih => rw [sR_succ, sR_succ, ih, Int.mul_add]
theorem sR_congr {n : Nat} {f g : Nat → Int} (h : ∀ k < n, f k = g k) : sR n f = sR n g := by
  induction n with
  | zero => rfl
  | succ n ih => rw [sR_succ, sR_succ, ih fun k hk => h k (by omega), h n (by omega)]
theorem sR_eq {n : Nat} {f g : Nat → Int} (h : ∀ k < n, f k ≤ g k) (e : sR n f = sR n g) : ∀ k < n, f k = g k := by
  induction n with
  | zero => intro k hk; omega
  | succ n ih =>
    rw [sR_succ, sR_succ] at e
    have h1 := sR_le (n := n) fun k hk => h k (by omega)
    have h2 := h n (by omega)
    intro k hk
    by_cases q : k = n
    · subst q; omega
    · exact ih (fun k hk => h k (by omega)) (by omega) k (by omega)
/-- the distance of c times the whole from the rest -/
def dF (W : Int) (c r : Int) : Int := ((c * W - r).natAbs : Int)
/-- .. less c times W - 2p -/
def gF (W p c r : Int) : Int := if 1 ≤ c then 2 * (p * c) - r else r + 2 * ((W - p) * (-c))
theorem dF_g {W p c r : Int} (hW : 0 < W) (r0 : 0 ≤ r) (r1 : r < W) : dF W c r = gF W p c r + (W - 2 * p) * c := by
  unfold dF gF
  by_cases h : 1 ≤ c
  · rw [if_pos h]
    have h1 : W ≤ c * W := by
      have := Int.mul_le_mul_of_nonneg_right h (Int.le_of_lt hW)
      omega
    rw [Int.sub_mul, Int.mul_assoc 2 p c, Int.mul_comm W c]
    omega
  · rw [if_neg h]
    have h1 : c * W ≤ 0 := Int.mul_nonpos_of_nonpos_of_nonneg (by omega) (Int.le_of_lt hW)
    rw [Int.sub_mul, Int.sub_mul, Int.mul_neg, Int.mul_neg, Int.mul_assoc 2 p c, Int.mul_comm W c]
    omega
/-- c is zero or one, and as p says -/
def okC' (p c r : Int) : Prop := (c = 1 ∧ p ≤ r) ∨ (c = 0 ∧ r ≤ p)
theorem g_least {W p c r x : Int} (p0 : 0 ≤ p) (p1 : p ≤ W) (h : okC' p c r) : gF W p c r ≤ gF W p x r := by
  have e : gF W p c r = if c = 1 then 2 * p - r else r := by
    rcases h with ⟨rfl, _⟩ | ⟨rfl, _⟩
    · unfold gF; rw [if_pos (by decide), if_pos rfl]; omega
    · unfold gF; rw [if_neg (by decide), if_neg (by decide)]; omega
  rw [e]
  unfold gF
  by_cases hx : 1 ≤ x
  · rw [if_pos hx]
    have : p * 1 ≤ p * x := Int.mul_le_mul_of_nonneg_left hx p0
    rcases h with ⟨rfl, _⟩ | ⟨rfl, _⟩
    · rw [if_pos rfl]; omega
    · rw [if_neg (by decide)]; omega
  · rw [if_neg hx]
    have : 0 ≤ (W - p) * (-x) := Int.mul_nonneg (by omega) (by omega)
    rcases h with ⟨rfl, _⟩ | ⟨rfl, _⟩
    · rw [if_pos rfl]; omega
    · rw [if_neg (by decide)]; omega
theorem g_only {W p c r x : Int} (p0 : 0 < p) (p1 : p < W) (h : okC' p c r) (e : gF W p c r = gF W p x r) : okC' p x r := by
  have e0 : gF W p c r = if c = 1 then 2 * p - r else r := by
    rcases h with ⟨rfl, _⟩ | ⟨rfl, _⟩
    · unfold gF; rw [if_pos (by decide), if_pos rfl]; omega
    · unfold gF; rw [if_neg (by decide), if_neg (by decide)]; omega
  rw [e0] at e
  unfold gF at e
  by_cases hx : 1 ≤ x
  · rw [if_pos hx] at e
    by_cases h2 : x = 1
    · subst h2
      rcases h with ⟨rfl, _⟩ | ⟨rfl, _⟩
      · exact .inl ⟨rfl, by omega⟩
      · rw [if_neg (by decide)] at e; exact .inl ⟨rfl, by omega⟩
    · have : p * 2 ≤ p * x := Int.mul_le_mul_of_nonneg_left (by omega) (by omega)
      rcases h with ⟨rfl, _⟩ | ⟨rfl, _⟩
      · rw [if_pos rfl] at e; omega
      · rw [if_neg (by decide)] at e; omega
  · rw [if_neg hx] at e
    by_cases h2 : x = 0
    · subst h2
      rcases h with ⟨rfl, _⟩ | ⟨rfl, _⟩
      · rw [if_pos rfl] at e; exact .inr ⟨rfl, by omega⟩
      · exact .inr ⟨rfl, by omega⟩
    · have : (W - p) * 1 ≤ (W - p) * (-x) := Int.mul_le_mul_of_nonneg_left (by omega) (by omega)
      rcases h with ⟨rfl, _⟩ | ⟨rfl, _⟩
      · rw [if_pos rfl] at e; omega
      · rw [if_neg (by decide)] at e; omega
section
variable {n : Nat} {W p : Int} {c x r : Nat → Int}
theorem d_sum (hW : 0 < W) (hr : ∀ k < n, 0 ≤ r k ∧ r k < W) : sR n (fun k => dF W (c k) (r k)) = sR n (fun k => gF W p (c k) (r k)) + (W - 2 * p) * sR n c := by
  rw [← sR_mul, ← sR_add]
  exact sR_congr fun k hk => dF_g hW (hr k hk).1 (hr k hk).2
theorem d_least (hW : 0 < W) (hr : ∀ k < n, 0 ≤ r k ∧ r k < W) (p0 : 0 ≤ p) (p1 : p ≤ W) (h : ∀ k < n, okC' p (c k) (r k)) (e : sR n c = sR n x) : sR n (fun k => dF W (c k) (r k)) ≤ sR n (fun k => dF W (x k) (r k)) := by
  rw [d_sum (p := p) hW hr, d_sum (p := p) hW hr, e]
  have := sR_le (n := n) fun k hk => g_least (x := x k) p0 p1 (h k hk)
  omega
theorem d_only (hW : 0 < W) (hr : ∀ k < n, 0 ≤ r k ∧ r k < W) (p0 : 0 < p) (p1 : p < W) (h : ∀ k < n, okC' p (c k) (r k)) (e : sR n c = sR n x) (q : sR n (fun k => dF W (c k) (r k)) = sR n (fun k => dF W (x k) (r k))) : ∀ k < n, okC' p (x k) (r k) := by
  rw [d_sum (p := p) hW hr, d_sum (p := p) hW hr, e] at q
  have := sR_eq (n := n) (f := fun k => gF W p (c k) (r k)) (g := fun k => gF W p (x k) (r k)) (fun k hk => g_least (x := x k) (by omega) (by omega) (h k hk)) (by omega)
  exact fun k hk => g_only p0 p1 (h k hk) (this k hk)
end
end Lm
namespace Lm
open PySem PySem.Spec PyProof.Rows L2
theorem sR_list : ∀ L : List Int, L.sum = sR L.length (fun k => L.getD k 0)
  | [] => rfl
  | x :: L => by
    have ih := sR_list L
    unfold sR at ih ⊢
    rw [List.length_cons, List.range_succ_eq_map, List.map_cons, List.map_map, List.sum_cons, List.sum_cons, ih]
    rfl
/-- how many of S stand below n -/
theorem sR_ind {n : Nat} {S : List Nat} (nd : S.Nodup) (h : ∀ k ∈ S, k < n) : sR n (fun k => if k ∈ S then 1 else 0) = (S.length : Int) := by
  have e : ∀ m, sR m (fun k => if k ∈ S then 1 else 0) = (((List.range m).filter fun k => decide (k ∈ S)).length : Int) := fun m => by
    induction m with
    | zero => rfl
    | succ m ih =>
      rw [sR_succ, ih, List.range_succ, List.filter_append, List.length_append]
      by_cases q : m ∈ S
      · rw [if_pos q]; simp [q]
      · rw [if_neg q]; simp [q]
  rw [e]
  congr 1
  refine List.Perm.length_eq ((List.perm_ext_iff_of_nodup (List.nodup_range.filter _) nd).mpr fun k => ?_)
  rw [List.mem_filter, List.mem_range, decide_eq_true_eq]
  exact ⟨fun w => w.2, fun w => ⟨h k w, w⟩⟩
/-! by the rests: greatest first -/
def rLt (r : List Int) (i j : Nat) : Prop := r.getD j 0 < r.getD i 0 ∨ (r.getD i 0 = r.getD j 0 ∧ i < j)
def rLe (r : List Int) (i j : Nat) : Bool := decide (r.getD j 0 < r.getD i 0) || (decide (r.getD i 0 = r.getD j 0) && decide (i ≤ j))
def grR (r : List Int) : List Nat := (List.range r.length).mergeSort (rLe r)
theorem grr_perm (r : List Int) : (grR r).Perm (List.range r.length) := List.mergeSort_perm _ _
theorem grr_nd (r : List Int) : (grR r).Nodup := (grr_perm r).nodup_iff.mpr List.nodup_range
theorem grr_mem {r : List Int} {k : Nat} : k ∈ grR r ↔ k < r.length := by rw [(grr_perm r).mem_iff, List.mem_range]
theorem grr_len (r : List Int) : (grR r).length = r.length := by rw [(grr_perm r).length_eq, List.length_range]
theorem grr_asc (r : List Int) : (grR r).Pairwise (rLt r) := by
  have pw : (grR r).Pairwise fun a b => rLe r a b = true := List.pairwise_mergeSort (le := rLe r) (fun a b c h1 h2 => by
    simp only [rLe, Bool.or_eq_true, Bool.and_eq_true, decide_eq_true_eq] at h1 h2 ⊢
    omega) (fun a b => by
    simp only [rLe, Bool.or_eq_true, Bool.and_eq_true, decide_eq_true_eq]
    omega) (List.range r.length)
  have nd := grr_nd r
  refine (List.Pairwise.and pw nd).imp fun {a b} h => ?_
  obtain ⟨h1, h2⟩ := h
  simp only [rLe, Bool.or_eq_true, Bool.and_eq_true, decide_eq_true_eq] at h1
  unfold rLt
  omega
/-- one that stands in the first t is before one that doesn't -/
theorem grr_before {r : List Int} {t i j : Nat} (hi : i ∈ (grR r).take t) (hj : j < r.length) (nj : j ∉ (grR r).take t) : rLt r i j := by
  have pw := grr_asc r
  rw [← List.take_append_drop t (grR r)] at pw
  have hj' : j ∈ (grR r).drop t := by
    have := grr_mem.mpr hj
    rw [← List.take_append_drop t (grR r), List.mem_append] at this
    exact this.resolve_left nj
  exact (List.pairwise_append.mp pw).2.2 i hi j hj'
/-! weights -/
structure Wts (ws : List Int) : Prop where
  l1 : 1 ≤ ws.length
  l5 : ws.length ≤ 5
  rng : ∀ x ∈ ws, 0 ≤ x ∧ x ≤ 1000000
  pos : 0 < ws.sum
def floL (ws : List Int) (b : Int) : List Int := ws.map fun x => b * x / ws.sum
def rstL (ws : List Int) (b : Int) : List Int := ws.map fun x => b * x % ws.sum
def upN (ws : List Int) (b : Int) : Nat := (b - (floL ws b).sum).toNat
def topR (ws : List Int) (b : Int) : List Nat := (grR (rstL ws b)).take (upN ws b)
def appL (ws : List Int) (b : Int) : List Int := (List.range ws.length).map fun k => (floL ws b).getD k 0 + if k ∈ topR ws b then 1 else 0
theorem flo_len {ws : List Int} {b : Int} : (floL ws b).length = ws.length := by simp [floL]
theorem rst_len {ws : List Int} {b : Int} : (rstL ws b).length = ws.length := by simp [rstL]
theorem app_len {ws : List Int} {b : Int} : (appL ws b).length = ws.length := by simp [appL]
theorem gD_map {ws : List Int} {f : Int → Int} {k : Nat} (hk : k < ws.length) : (ws.map f).getD k 0 = f (ws.getD k 0) := by
  simp [List.getD_eq_getElem?_getD, hk]
theorem flo_at {ws : List Int} {b : Int} {k : Nat} (hk : k < ws.length) : (floL ws b).getD k 0 = b * ws.getD k 0 / ws.sum := gD_map hk
theorem rst_at {ws : List Int} {b : Int} {k : Nat} (hk : k < ws.length) : (rstL ws b).getD k 0 = b * ws.getD k 0 % ws.sum := gD_map hk
theorem app_at {ws : List Int} {b : Int} {k : Nat} (hk : k < ws.length) : (appL ws b).getD k 0 = (floL ws b).getD k 0 + if k ∈ topR ws b then 1 else 0 := by
  unfold appL
  simp [List.getD_eq_getElem?_getD, hk]
theorem wts_mem {ws : List Int} {k : Nat} (hk : k < ws.length) : ws.getD k 0 ∈ ws := by
  rw [List.getD_eq_getElem?_getD, List.getElem?_eq_getElem hk]; exact List.getElem_mem hk
theorem sum_bd {M : Int} : ∀ {ws : List Int}, (∀ x ∈ ws, x ≤ M) → ws.sum ≤ M * ws.length
  | [], _ => by simp
  | x :: ws, h => by
    have := sum_bd (ws := ws) fun y hy => h y (by simp [hy])
    have := h x (by simp)
    rw [List.sum_cons, List.length_cons, Int.natCast_add, Int.mul_add]
    omega
theorem Wts.sum5 {ws : List Int} (h : Wts ws) : ws.sum ≤ 5000000 := by
  have := sum_bd fun x hx => (h.rng x hx).2
  have := h.l5
  omega
section
variable {ws as : List Int} {b : Int}
theorem spl_at (h : Wts ws) {k : Nat} (hk : k < ws.length) : b * ws.getD k 0 = (floL ws b).getD k 0 * ws.sum + (rstL ws b).getD k 0 := by
  rw [flo_at hk, rst_at hk, Int.mul_comm (b * ws.getD k 0 / ws.sum)]
  exact (Int.mul_ediv_add_emod _ _).symm
theorem rst_rng (h : Wts ws) {k : Nat} (hk : k < ws.length) : 0 ≤ (rstL ws b).getD k 0 ∧ (rstL ws b).getD k 0 < ws.sum := by
  rw [rst_at hk]
  exact ⟨Int.emod_nonneg _ (by have := h.pos; omega), Int.emod_lt_of_pos _ h.pos⟩
theorem up_int (h : Wts ws) : sR ws.length (fun k => (rstL ws b).getD k 0) = (b - (floL ws b).sum) * ws.sum ∧ 0 ≤ b - (floL ws b).sum ∧ b - (floL ws b).sum ≤ ws.length := by
  have e1 : sR ws.length (fun k => b * ws.getD k 0) = b * ws.sum := by rw [sR_mul, ← sR_list]
  have e2 : sR ws.length (fun k => b * ws.getD k 0) = sR ws.length (fun k => ws.sum * (floL ws b).getD k 0) + sR ws.length (fun k => (rstL ws b).getD k 0) := by
    rw [← sR_add]
    exact sR_congr fun k hk => by rw [spl_at h hk, Int.mul_comm]
  have e3 : sR ws.length (fun k => ws.sum * (floL ws b).getD k 0) = ws.sum * (floL ws b).sum := by
    rw [sR_mul, sR_list (floL ws b), flo_len]
  have e4 : sR ws.length (fun k => (rstL ws b).getD k 0) = (b - (floL ws b).sum) * ws.sum := by
    rw [Int.sub_mul, Int.mul_comm (floL ws b).sum]
    omega
  have z0 : 0 ≤ sR ws.length (fun k => (rstL ws b).getD k 0) := by
    have := sR_le (n := ws.length) (f := fun _ => 0) fun k hk => (rst_rng (b := b) h hk).1
    have z : sR ws.length (fun _ => (0 : Int)) = 0 := by
      generalize ws.length = n
      induction n with
      | zero => rfl
      | succ n ih => rw [sR_succ, ih]; rfl
    omega
  have z1 : sR ws.length (fun k => (rstL ws b).getD k 0) ≤ (ws.length : Int) * ws.sum := by
    have := sR_le (n := ws.length) (g := fun _ => ws.sum) fun k hk => Int.le_of_lt (rst_rng (b := b) h hk).2
    have z : sR ws.length (fun _ => ws.sum) = (ws.length : Int) * ws.sum := by
      generalize ws.length = n
      induction n with
      | zero => exact (Int.zero_mul _).symm
      | succ n ih => rw [sR_succ, ih, Int.natCast_add, Int.add_mul]; omega
    omega
  rw [e4] at z0 z1
  refine ⟨e4, ?_, Int.le_of_mul_le_mul_right z1 h.pos⟩
  exact Int.nonneg_of_mul_nonneg_left z0 h.pos
theorem up_is (h : Wts ws) : ((upN ws b : Nat) : Int) = b - (floL ws b).sum := by have := (up_int (b := b) h).2.1; unfold upN; omega
theorem up_le (h : Wts ws) : upN ws b ≤ ws.length := by have := (up_int (b := b) h).2; unfold upN; omega
theorem top_nd : (topR ws b).Nodup := (grr_nd _).sublist (List.take_sublist _ _)
theorem top_lt {k : Nat} (hk : k ∈ topR ws b) : k < ws.length := by
  have := grr_mem.mp (List.mem_of_mem_take hk)
  rwa [rst_len] at this
theorem top_len (h : Wts ws) : (topR ws b).length = upN ws b := by
  unfold topR
  rw [List.length_take, grr_len, rst_len]
  have := up_le (b := b) h
  omega
theorem app_alc (h : Wts ws) (hb : 0 ≤ b) : Alc (appL ws b) (ws.length : Int) b := by
  refine ⟨by rw [app_len], ?_, fun n hn => ?_⟩
  · rw [sR_list, app_len, sR_congr (g := fun k => (floL ws b).getD k 0 + if k ∈ topR ws b then 1 else 0) fun k hk => app_at hk, sR_add, sR_ind top_nd fun k hk => top_lt hk, top_len h, up_is h]
    have := sR_list (floL ws b)
    rw [flo_len] at this
    omega
  · unfold appL at hn
    obtain ⟨k, hk, rfl⟩ := List.mem_map.mp hn
    have hk := List.mem_range.mp hk
    have : 0 ≤ (floL ws b).getD k 0 := by
      rw [flo_at hk]
      exact Int.ediv_nonneg (Int.mul_nonneg hb (h.rng _ (wts_mem hk)).1) (Int.le_of_lt h.pos)
    split <;> omega
def ovL (ws as : List Int) : List Int := (ws.zip as).map fun p => p.2 * ws.sum - as.sum * p.1
def devI (ws as : List Int) : Int := ((ovL ws as).map fun x => (x.natAbs : Int)).sum
theorem ov_len (hl : as.length = ws.length) : (ovL ws as).length = ws.length := by simp [ovL, hl]
theorem ov_at (h : Wts ws) (hl : as.length = ws.length) {k : Nat} (hk : k < ws.length) : (ovL ws as).getD k 0 = (as.getD k 0 - (floL ws as.sum).getD k 0) * ws.sum - (rstL ws as.sum).getD k 0 := by
  have e : (ovL ws as).getD k 0 = as.getD k 0 * ws.sum - as.sum * ws.getD k 0 := by
    unfold ovL
    have z : (ws.zip as)[k]? = some (ws[k], as[k]'(by omega)) := List.getElem?_zip_eq_some.mpr ⟨List.getElem?_eq_getElem hk, List.getElem?_eq_getElem (by omega)⟩
    rw [List.getD_eq_getElem?_getD, List.getElem?_map, z]
    simp [List.getD_eq_getElem?_getD, hk, hl]
  rw [e, spl_at h hk, Int.sub_mul]
  omega
def cOf (ws as : List Int) (k : Nat) : Int := as.getD k 0 - (floL ws as.sum).getD k 0
theorem dev_is (h : Wts ws) (hl : as.length = ws.length) : devI ws as = sR ws.length (fun k => dF ws.sum (cOf ws as k) ((rstL ws as.sum).getD k 0)) := by
  unfold devI
  rw [sR_list, List.length_map, ov_len hl]
  refine sR_congr fun k hk => ?_
  rw [gD_map (by rw [ov_len hl]; exact hk), ov_at h hl hk]
  rfl
theorem c_sum (hl : as.length = ws.length) : sR ws.length (cOf ws as) = as.sum - (floL ws as.sum).sum := by
  have e : sR ws.length (cOf ws as) + sR ws.length (fun k => (floL ws as.sum).getD k 0) = sR ws.length (fun k => as.getD k 0) := by
    rw [← sR_add]
    exact sR_congr fun k hk => by unfold cOf; omega
  have e1 := sR_list (floL ws as.sum)
  have e2 := sR_list as
  rw [flo_len] at e1
  rw [hl] at e2
  omega
/-- what is rounded up and down as it should be -/
def NearP (ws as : List Int) : Prop := (∀ k < ws.length, cOf ws as k = 0 ∨ (cOf ws as k = 1 ∧ 0 < (rstL ws as.sum).getD k 0)) ∧ ∀ i < ws.length, ∀ j < ws.length, cOf ws as i = 1 → cOf ws as j = 0 → 0 < (rstL ws as.sum).getD j 0 → (rstL ws as.sum).getD j 0 ≤ (rstL ws as.sum).getD i 0
/-- a threshold for what is rounded as it should be -/
theorem near_p (h : Wts ws) (hl : as.length = ws.length) (hn : NearP ws as) : ∃ p, 0 ≤ p ∧ p ≤ ws.sum ∧ ∀ k < ws.length, okC' p (cOf ws as k) ((rstL ws as.sum).getD k 0) := by
  let up := ((List.range ws.length).filter fun k => decide (cOf ws as k = 1)).map fun k => (rstL ws as.sum).getD k 0
  by_cases e : up = []
  · refine ⟨ws.sum, by have := h.pos; omega, Int.le_refl _, fun k hk => ?_⟩
    rcases hn.1 k hk with w | ⟨w, _⟩
    · exact .inr ⟨w, Int.le_of_lt (rst_rng h hk).2⟩
    · have : (rstL ws as.sum).getD k 0 ∈ up := List.mem_map.mpr ⟨k, List.mem_filter.mpr ⟨List.mem_range.mpr hk, by simpa using w⟩, rfl⟩
      rw [e] at this; cases this
  · have lp : 0 < up.length := List.length_pos_iff.mpr e
    obtain ⟨i, hi, ei⟩ := List.mem_map.mp (mnL_mem lp)
    obtain ⟨hi, ci⟩ := List.mem_filter.mp hi
    have hi := List.mem_range.mp hi
    have ci := of_decide_eq_true ci
    refine ⟨mnL up, by rw [← ei]; exact (rst_rng h hi).1, by rw [← ei]; exact Int.le_of_lt (rst_rng h hi).2, fun k hk => ?_⟩
    rcases hn.1 k hk with w | ⟨w, _⟩
    · refine .inr ⟨w, ?_⟩
      by_cases z : 0 < (rstL ws as.sum).getD k 0
      · rw [← ei]; exact hn.2 i hi k hk ci w z
      · rw [← ei]
        have := (rst_rng (b := as.sum) h hi).1
        omega
    · exact .inl ⟨w, mnL_le _ (List.mem_map.mpr ⟨k, List.mem_filter.mpr ⟨List.mem_range.mpr hk, by simpa using w⟩, rfl⟩)⟩
theorem app_c (h : Wts ws) (hb : 0 ≤ b) {k : Nat} (hk : k < ws.length) : cOf ws (appL ws b) k = if k ∈ topR ws b then 1 else 0 := by
  unfold cOf
  rw [(app_alc h hb).sum, app_at hk]
  omega
/-- the rests of those on top are no zeros -/
theorem top_pos (h : Wts ws) {i : Nat} (hi : i ∈ topR ws b) : 0 < (rstL ws b).getD i 0 := by
  apply Classical.byContradiction
  intro n
  have iw := top_lt hi
  have z : (rstL ws b).getD i 0 = 0 := by have := (rst_rng (b := b) h iw).1; omega
  have le : ∀ k < ws.length, (rstL ws b).getD k 0 ≤ ws.sum * ((if k ∈ topR ws b then 1 else 0) - if k ∈ [i] then 1 else 0) := fun k hk => by
    by_cases q : k ∈ topR ws b
    · rw [if_pos q]
      by_cases q2 : k ∈ [i]
      · rw [if_pos q2, List.mem_singleton.mp q2, z]; simp
      · rw [if_neg q2]; have := (rst_rng (b := b) h hk).2; omega
    · rw [if_neg q]
      have q2 : k ∉ [i] := fun w => q (by rw [List.mem_singleton.mp w]; exact hi)
      rw [if_neg q2]
      have := grr_before (r := rstL ws b) (t := upN ws b) hi (by rw [rst_len]; exact hk) q
      unfold rLt at this
      omega
  have := sR_le le
  rw [sR_mul, (up_int (b := b) h).1] at this
  have e : sR ws.length (fun k => (if k ∈ topR ws b then 1 else 0) - if k ∈ [i] then 1 else 0) = (b - (floL ws b).sum) - 1 := by
    have e1 := sR_ind (n := ws.length) (top_nd (ws := ws) (b := b)) fun k hk => top_lt hk
    have e2 := sR_ind (n := ws.length) (S := [i]) (by simp) fun k hk => by rw [List.mem_singleton.mp hk]; exact iw
    have e3 : sR ws.length (fun k => (if k ∈ topR ws b then 1 else 0) - if k ∈ [i] then 1 else 0) + sR ws.length (fun k => if k ∈ [i] then 1 else 0) = sR ws.length (fun k => if k ∈ topR ws b then 1 else 0) := by
      rw [← sR_add]; exact sR_congr fun k hk => by omega
    rw [top_len h, up_is h] at e1
    have e2 : sR ws.length (fun k => if k ∈ [i] then 1 else 0) = 1 := e2
    omega
  rw [e, Int.mul_sub, Int.mul_comm] at this
  have := h.pos
  omega
theorem app_near (h : Wts ws) (hb : 0 ≤ b) : NearP ws (appL ws b) := by
  refine ⟨fun k hk => ?_, fun i hi j hj ci cj pj => ?_⟩
  · rw [app_c h hb hk, (app_alc h hb).sum]
    by_cases q : k ∈ topR ws b
    · rw [if_pos q]; exact .inr ⟨rfl, top_pos h q⟩
    · rw [if_neg q]; exact .inl rfl
  · rw [app_c h hb hi] at ci
    rw [app_c h hb hj] at cj
    rw [(app_alc h hb).sum]
    have qi : i ∈ topR ws b := by
      apply Classical.byContradiction; intro n; rw [if_neg n] at ci; cases ci
    have qj : j ∉ topR ws b := fun n => by rw [if_pos n] at cj; cases cj
    have := grr_before (r := rstL ws b) (t := upN ws b) qi (by rw [rst_len]; exact hj) qj
    unfold rLt at this
    omega
/-- as near as any -/
theorem dev_least (h : Wts ws) (hl : as.length = ws.length) {cs : List Int} (hc : cs.length = ws.length) (e : as.sum = cs.sum) (hn : NearP ws as) : devI ws as ≤ devI ws cs := by
  obtain ⟨p, p0, p1, ok⟩ := near_p h hl hn
  rw [dev_is h hl, dev_is h hc, ← e]
  have := d_least (n := ws.length) (x := cOf ws cs) h.pos (fun k hk => rst_rng (b := as.sum) h hk) p0 p1 ok (by rw [c_sum hl, c_sum hc, e])
  exact this
theorem near_iff (h : Wts ws) (hb : 0 ≤ b) (hl : as.length = ws.length) (e : as.sum = b) (nn : ∀ x ∈ as, 0 ≤ x) : NearP ws as ↔ devI ws as = devI ws (appL ws b) := by
  have ha := app_alc h hb
  have al : (appL ws b).length = ws.length := app_len
  constructor
  · intro hn
    have h1 := dev_least h hl al (by rw [e, ha.sum]) hn
    have h2 := dev_least h al hl (by rw [e, ha.sum]) (app_near h hb)
    omega
  · intro q
    by_cases z : upN ws b = 0
    · -- all rests are zero
      have n0 : b - (floL ws b).sum = 0 := by rw [← up_is h, z]; rfl
      have sr := (up_int (b := b) h).1
      rw [n0, Int.zero_mul] at sr
      have r0 : ∀ k < ws.length, (rstL ws b).getD k 0 = 0 := fun k hk => by
        have := sR_eq (n := ws.length) (f := fun _ => 0) (fun k hk => (rst_rng (b := b) h hk).1) (by
          rw [sr]
          generalize ws.length = n
          induction n with
          | zero => rfl
          | succ n ih => rw [sR_succ, ih]; rfl) k hk
        omega
      have c0 : ∀ k < ws.length, cOf ws (appL ws b) k = 0 := fun k hk => by
        rw [app_c h hb hk, if_neg]
        unfold topR
        rw [z]; simp
      rw [dev_is h hl, dev_is h al, e, ha.sum] at q
      have dz : sR ws.length (fun k => dF ws.sum (cOf ws (appL ws b) k) ((rstL ws b).getD k 0)) = sR ws.length fun _ => 0 := sR_congr fun k hk => by rw [c0 k hk, r0 k hk]; simp [dF]
      rw [dz] at q
      have := sR_eq (n := ws.length) (f := fun _ => 0) (g := fun k => dF ws.sum (cOf ws as k) ((rstL ws b).getD k 0)) (fun k hk => by unfold dF; omega) q.symm
      have cz : ∀ k < ws.length, cOf ws as k = 0 := fun k hk => by
        have t : (0 : Int) = dF ws.sum (cOf ws as k) ((rstL ws b).getD k 0) := this k hk
        rw [r0 k hk] at t
        unfold dF at t
        have : cOf ws as k * ws.sum = 0 := by omega
        rcases Int.mul_eq_zero.mp this with w | w
        · exact w
        · have := h.pos; omega
      exact ⟨fun k hk => .inl (cz k hk), fun i hi j hj ci => by rw [cz i hi] at ci; cases ci⟩
    · obtain ⟨p, p0, p1, ok⟩ : ∃ p, 0 < p ∧ p < ws.sum ∧ ∀ k < ws.length, okC' p (cOf ws (appL ws b) k) ((rstL ws b).getD k 0) := by
        have tl := top_len (b := b) h
        have lp : 0 < ((topR ws b).map fun k => (rstL ws b).getD k 0).length := by rw [List.length_map]; omega
        obtain ⟨i, hi, ei⟩ := List.mem_map.mp (mnL_mem lp)
        refine ⟨mnL ((topR ws b).map fun k => (rstL ws b).getD k 0), by rw [← ei]; exact top_pos h hi, by rw [← ei]; exact (rst_rng h (top_lt hi)).2, fun k hk => ?_⟩
        rw [app_c h hb hk]
        by_cases q : k ∈ topR ws b
        · rw [if_pos q]; exact .inl ⟨rfl, mnL_le _ (List.mem_map.mpr ⟨k, q, rfl⟩)⟩
        · rw [if_neg q]
          refine .inr ⟨rfl, ?_⟩
          rw [← ei]
          have := grr_before (r := rstL ws b) (t := upN ws b) hi (by rw [rst_len]; exact hk) q
          unfold rLt at this
          omega
      rw [dev_is h hl, dev_is h al, e, ha.sum] at q
      have only := d_only (n := ws.length) (x := cOf ws as) h.pos (fun k hk => rst_rng (b := b) h hk) p0 p1 ok (by rw [c_sum hl, c_sum al, ha.sum, e]) q.symm
      refine ⟨fun k hk => ?_, fun i hi j hj ci cj pj => ?_⟩
      · rw [e]
        rcases only k hk with ⟨w, z⟩ | ⟨w, z⟩
        · exact .inr ⟨w, by omega⟩
        · exact .inl w
      · rw [e]
        rcases only i hi with ⟨w, z⟩ | ⟨w, z⟩
        · rcases only j hj with ⟨w2, z2⟩ | ⟨w2, z2⟩ <;> omega
        · omega
end
end Lm


/-! lowest terms; what is rounded as it should be; promises about weights (k04, k09) -/
namespace Lm
open PySem PySem.Spec PyProof.Rows L2
def gcI (n d : Int) : Int := ((Nat.gcd n.natAbs d.natAbs : Nat) : Int)
def lowD (n d : Int) : PyData := .tuple [.int (n / gcI n d), .int (d / gcI n d)]
theorem gc_pos {n d : Int} (hd : 0 < d) : 0 < gcI n d := by
  have : 0 < Nat.gcd n.natAbs d.natAbs := Nat.gcd_pos_of_pos_right _ (by omega)
  unfold gcI; omega
theorem gc_l {n d : Int} : n / gcI n d * gcI n d = n := by
  refine Int.ediv_mul_cancel ?_
  unfold gcI
  exact Int.natAbs_dvd_natAbs.mp (Nat.gcd_dvd_left _ _)
theorem gc_r {n d : Int} : d / gcI n d * gcI n d = d := by
  refine Int.ediv_mul_cancel ?_
  unfold gcI
  exact Int.natAbs_dvd_natAbs.mp (Nat.gcd_dvd_right _ _)
theorem gc_le {n d : Int} (hd : 0 < d) : gcI n d ≤ d := by
  have : Nat.gcd n.natAbs d.natAbs ≤ d.natAbs := Nat.gcd_le_right _ (by omega)
  unfold gcI; omega
theorem low_eq {x y W : Int} (hW : 0 < W) (h : lowD x W = lowD y W) : x = y := by
  unfold lowD at h
  injection h with h
  injection h with h1 h
  injection h with h2 _
  injection h1 with h1
  injection h2 with h2
  have e1 := gc_r (n := x) (d := W)
  have e2 := gc_r (n := y) (d := W)
  have q : 0 < W / gcI x W := by
    apply Classical.byContradiction
    intro n
    have : W / gcI x W * gcI x W ≤ 0 := Int.mul_nonpos_of_nonpos_of_nonneg (by omega) (Int.le_of_lt (gc_pos hW))
    omega
  have g : gcI x W = gcI y W := by
    rw [← h2] at e2
    exact Int.eq_of_mul_eq_mul_left (by omega) (e1.trans e2.symm)
  rw [← gc_l (n := x) (d := W), ← gc_l (n := y) (d := W), h1, g]
theorem low_ge {x y W : Int} (hW : 0 < W) (h : y ≤ x) : ¬ (x / gcI x W * (W / gcI y W) < y / gcI y W * (W / gcI x W)) := by
  intro n
  have g1 := gc_pos (n := x) hW
  have g2 := gc_pos (n := y) hW
  have e1 : x / gcI x W * (W / gcI y W) * (gcI x W * gcI y W) = x * W := by
    rw [Int.mul_assoc, Int.mul_left_comm (W / gcI y W), gc_r, ← Int.mul_assoc, gc_l]
  have e2 : y / gcI y W * (W / gcI x W) * (gcI x W * gcI y W) = y * W := by
    rw [Int.mul_comm (gcI x W), Int.mul_assoc, Int.mul_left_comm (W / gcI x W), gc_r, ← Int.mul_assoc, gc_l]
  have := Int.mul_lt_mul_of_pos_right n (Int.mul_pos g1 g2)
  rw [e1, e2] at this
  have := Int.lt_of_mul_lt_mul_right this (Int.le_of_lt hW)
  omega
theorem zip_rng04 {L M : List Int} (h : M.length = L.length) : L.zip M = (List.range L.length).map fun k => (L.getD k 0, M.getD k 0) := by
  apply List.ext_getElem
  · simp [h]
  · intro k h1 h2
    simp at h1 h2
    simp [List.getD_eq_getElem?_getD, h2, h]
theorem mx_lt {L : List Int} {W : Int} (hl : 0 < L.length) : mxL L < W ↔ ∀ x ∈ L, x < W := by
  constructor
  · intro h x hx
    have := mxL_le (ns := L) x hx
    omega
  · intro h
    exact h _ (mxL_mem hl)
def uprL (ws as : List Int) : List Int := (((rstL ws as.sum).zip (ovL ws as)).filter fun p => decide (0 < p.2)).map (·.1)
def dwnL (ws as : List Int) : List Int := (((rstL ws as.sum).zip (ovL ws as)).filter fun p => decide (p.2 < 0)).map (·.1)
def nearB (ws as : List Int) : Bool := decide (mxL ((ovL ws as).map fun x => (x.natAbs : Int)) < ws.sum) && (decide (uprL ws as = []) || decide (mxL (dwnL ws as) ≤ mnL (uprL ws as)))
section
variable {ws as : List Int} {b : Int}
theorem mem_uprL (hl : as.length = ws.length) {x : Int} : x ∈ uprL ws as ↔ ∃ k < ws.length, x = (rstL ws as.sum).getD k 0 ∧ 0 < (ovL ws as).getD k 0 := by
  unfold uprL
  rw [zip_rng04 (by rw [ov_len hl, rst_len]), rst_len]
  simp only [List.mem_map, List.mem_filter, List.mem_range, decide_eq_true_eq]
  constructor
  · rintro ⟨p, ⟨⟨k, hk, rfl⟩, hp⟩, rfl⟩; exact ⟨k, hk, rfl, hp⟩
  · rintro ⟨k, hk, rfl, hp⟩; exact ⟨_, ⟨⟨k, hk, rfl⟩, hp⟩, rfl⟩
theorem mem_dwnL (hl : as.length = ws.length) {x : Int} : x ∈ dwnL ws as ↔ ∃ k < ws.length, x = (rstL ws as.sum).getD k 0 ∧ (ovL ws as).getD k 0 < 0 := by
  unfold dwnL
  rw [zip_rng04 (by rw [ov_len hl, rst_len]), rst_len]
  simp only [List.mem_map, List.mem_filter, List.mem_range, decide_eq_true_eq]
  constructor
  · rintro ⟨p, ⟨⟨k, hk, rfl⟩, hp⟩, rfl⟩; exact ⟨k, hk, rfl, hp⟩
  · rintro ⟨k, hk, rfl, hp⟩; exact ⟨_, ⟨⟨k, hk, rfl⟩, hp⟩, rfl⟩
theorem ov_sum (h : Wts ws) (hl : as.length = ws.length) : sR ws.length (fun k => (ovL ws as).getD k 0) = 0 := by
  have e : sR ws.length (fun k => (ovL ws as).getD k 0) + sR ws.length (fun k => as.sum * ws.getD k 0) = sR ws.length (fun k => ws.sum * as.getD k 0) := by
    rw [← sR_add]
    refine sR_congr fun k hk => ?_
    rw [ov_at h hl hk, spl_at (b := as.sum) h hk, Int.sub_mul, Int.mul_comm (as.getD k 0)]
    omega
  rw [sR_mul, sR_mul, ← sR_list, ← hl, ← sR_list as, Int.mul_comm] at e
  rw [← hl]
  omega
theorem dwn_some (h : Wts ws) (hl : as.length = ws.length) (hu : uprL ws as ≠ []) : 0 < (dwnL ws as).length := by
  apply Classical.byContradiction
  intro n
  have z : dwnL ws as = [] := List.length_eq_zero_iff.mp (by omega)
  have nn : ∀ k < ws.length, (0 : Int) ≤ (ovL ws as).getD k 0 := fun k hk => by
    apply Classical.byContradiction
    intro w
    have : (rstL ws as.sum).getD k 0 ∈ dwnL ws as := (mem_dwnL hl).mpr ⟨k, hk, rfl, by omega⟩
    rw [z] at this; cases this
  have s := ov_sum h hl
  have z0 : sR ws.length (fun _ => (0 : Int)) = 0 := by
    generalize ws.length = n
    induction n with
    | zero => rfl
    | succ n ih => rw [sR_succ, ih]; rfl
  have all := sR_eq (n := ws.length) (f := fun _ => 0) nn (by rw [z0, s])
  obtain ⟨x, hx⟩ := List.exists_mem_of_ne_nil _ hu
  obtain ⟨k, hk, _, hp⟩ := (mem_uprL hl).mp hx
  have := all k hk
  omega
theorem dF_lt {W c r : Int} (hW : 0 < W) (r0 : 0 ≤ r) (r1 : r < W) : dF W c r < W ↔ (c = 0 ∨ (c = 1 ∧ 0 < r)) := by
  unfold dF
  by_cases h2 : 2 ≤ c
  · have := Int.mul_le_mul_of_nonneg_right h2 (Int.le_of_lt hW)
    omega
  · by_cases h0 : c ≤ -1
    · have := Int.mul_le_mul_of_nonneg_right h0 (Int.le_of_lt hW)
      omega
    · rcases (show c = 0 ∨ c = 1 by omega) with rfl | rfl <;> omega
theorem nearB_iff (h : Wts ws) (hl : as.length = ws.length) : nearB ws as = true ↔ NearP ws as := by
  have l1 := h.l1
  have mx : mxL ((ovL ws as).map fun x => (x.natAbs : Int)) < ws.sum ↔ ∀ k < ws.length, cOf ws as k = 0 ∨ (cOf ws as k = 1 ∧ 0 < (rstL ws as.sum).getD k 0) := by
    rw [mx_lt (by rw [List.length_map, ov_len hl]; omega)]
    constructor
    · intro w k hk
      have : (((ovL ws as).getD k 0).natAbs : Int) ∈ (ovL ws as).map fun x => (x.natAbs : Int) := List.mem_map_of_mem (wts_mem (by rw [ov_len hl]; exact hk))
      have := w _ this
      rw [ov_at h hl hk] at this
      exact (dF_lt h.pos (rst_rng h hk).1 (rst_rng h hk).2).mp this
    · intro w x hx
      obtain ⟨y, hy, rfl⟩ := List.mem_map.mp hx
      obtain ⟨k, hk, rfl⟩ := List.mem_iff_getElem.mp hy
      rw [ov_len hl] at hk
      have e : (ovL ws as)[k]'(by rw [ov_len hl]; exact hk) = (ovL ws as).getD k 0 := by simp [List.getD_eq_getElem?_getD, ov_len hl, hk]
      rw [e, ov_at h hl hk]
      exact (dF_lt h.pos (rst_rng h hk).1 (rst_rng h hk).2).mpr (w k hk)
  unfold nearB NearP
  rw [Bool.and_eq_true, decide_eq_true_eq, mx, Bool.or_eq_true, decide_eq_true_eq, decide_eq_true_eq]
  refine and_congr_right fun ok => ?_
  have up : ∀ k < ws.length, (0 < (ovL ws as).getD k 0 ↔ cOf ws as k = 1) := fun k hk => by
    have rr := rst_rng (b := as.sum) h hk
    rw [ov_at h hl hk]
    show 0 < cOf ws as k * ws.sum - _ ↔ _
    rcases ok k hk with e | ⟨e, _⟩ <;> rw [e] <;> omega
  have dn : ∀ k < ws.length, ((ovL ws as).getD k 0 < 0 ↔ cOf ws as k = 0 ∧ 0 < (rstL ws as.sum).getD k 0) := fun k hk => by
    have rr := rst_rng (b := as.sum) h hk
    rw [ov_at h hl hk]
    show cOf ws as k * ws.sum - _ < 0 ↔ _
    rcases ok k hk with e | ⟨e, _⟩ <;> rw [e] <;> omega
  constructor
  · rintro w i hi j hj ci cj pj
    have mi : (rstL ws as.sum).getD i 0 ∈ uprL ws as := (mem_uprL hl).mpr ⟨i, hi, rfl, (up i hi).mpr ci⟩
    have mj : (rstL ws as.sum).getD j 0 ∈ dwnL ws as := (mem_dwnL hl).mpr ⟨j, hj, rfl, (dn j hj).mpr ⟨cj, pj⟩⟩
    rcases w with w | w
    · rw [w] at mi; cases mi
    · have := mnL_le _ mi
      have := mxL_le _ mj
      omega
  · intro w
    by_cases e : uprL ws as = []
    · exact .inl e
    · refine .inr ?_
      obtain ⟨i, hi, ei, pi⟩ := (mem_uprL hl).mp (mnL_mem (List.length_pos_iff.mpr e))
      obtain ⟨j, hj, ej, pj⟩ := (mem_dwnL hl).mp (mxL_mem (dwn_some h hl e))
      rw [ei, ej]
      have := (dn j hj).mp pj
      exact w i hi j hj ((up i hi).mp pi) this.1 this.2
end
/-! promises -/
def wtsB (x : PyData) : Bool := areInts x 0 1000000 && ((decide (1 ≤ lenT x) && decide (lenT x ≤ 5)) && decide (0 < sumT x))
theorem Wts.isB {ws : List Int} (h : Wts ws) : wtsB (tupD ws) = true := by
  unfold wtsB
  rw [areInts_of h.rng, lenT_ints, sumT_ints, decide_eq_true h.l1, decide_eq_true h.l5, decide_eq_true h.pos]
  rfl
def sp_in_lowest_terms (K : PySem.W.Frag) : Sp := spD K fun ds k d => ∃ n m : Int, ds = [.int n, .int m] ∧ 0 < m ∧ m < 1073741824 ∧ k = .v ∧ d = lowD n m
def sp_are_weights (K : PySem.W.Frag) : Sp := spD K fun ds k d => ∃ x, ds = [x] ∧ SmallT x ∧ k = .v ∧ d = .bool (wtsB x)
def sp_check_weighted (K : PySem.W.Frag) : Sp := spD K fun ds k d => ∃ (ws as : List Int) (b : Int), ds = [tupD ws, tupD as] ∧ Wts ws ∧ Alc as (ws.length : Int) b ∧ b ≤ 20 ∧ k = .v ∧ d = .none
def sp_rests_of (K : PySem.W.Frag) : Sp := spD K fun ds k d => ∃ (ws : List Int) (b : Int), ds = [tupD ws, .int b] ∧ Wts ws ∧ 0 ≤ b ∧ b ≤ 20 ∧ k = .o ∧ d = .list ((rstL ws b).map .int)
def sp_by_largest_rests (K : PySem.W.Frag) : Sp := spD K fun ds k d => ∃ (ws : List Int) (b : Int), ds = [tupD ws, .int b] ∧ Wts ws ∧ 0 ≤ b ∧ b ≤ 20 ∧ k = .v ∧ d = tupD (appL ws b)
def sp_apportioned (K : PySem.W.Frag) : Sp := spD K fun ds k d => ∃ (ws : List Int) (b : Int), ds = [tupD ws, .int b] ∧ Wts ws ∧ 0 ≤ b ∧ b ≤ 20 ∧ k = .v ∧ d = tupD (appL ws b)
def sp_surpluses (K : PySem.W.Frag) : Sp := spD K fun ds k d => ∃ (ws as : List Int) (b : Int), ds = [tupD ws, tupD as] ∧ Wts ws ∧ Alc as (ws.length : Int) b ∧ b ≤ 20 ∧ k = .o ∧ d = .list ((ovL ws as).map .int)
def sp_deviation (K : PySem.W.Frag) : Sp := spD K fun ds k d => ∃ (ws as : List Int) (b : Int), ds = [tupD ws, tupD as] ∧ Wts ws ∧ Alc as (ws.length : Int) b ∧ b ≤ 20 ∧ k = .v ∧ d = lowD (devI ws as) ws.sum
def sp_is_nearest (K : PySem.W.Frag) : Sp := spD K fun ds k d => ∃ (ws as : List Int) (b : Int), ds = [tupD ws, tupD as] ∧ Wts ws ∧ Alc as (ws.length : Int) b ∧ b ≤ 20 ∧ k = .v ∧ d = .bool (nearB ws as)
def sp__law_gcd (K : PySem.W.Frag) : Sp := spD K fun ds k d => ∃ a b : Int, ds = [.int a, .int b] ∧ 0 ≤ a ∧ 0 < b ∧ b < 1073741824 ∧ k = .v ∧ d = .int (gcI a b)
def sp__law_low (K : PySem.W.Frag) : Sp := spD K fun ds k d => ∃ n m : Int, ds = [.int n, .int m] ∧ 0 ≤ n ∧ 0 < m ∧ m < 1073741824 ∧ k = .v ∧ d = lowD n m
def sp__law_allocations04 (K : PySem.W.Frag) : Sp := spD K fun ds k d => ∃ v b : Int, ds = [.int v, .int b] ∧ 1 ≤ v ∧ 0 ≤ b ∧ ((v ≤ 3 ∧ b ≤ 20) ∨ (v ≤ 5 ∧ b ≤ 6)) ∧ k = .o ∧ d = .list ((alcF b v.toNat).map tupD)
def sp__law_weights (K : PySem.W.Frag) : Sp := spS K fun ds k P => ∃ v : Nat, ds = [.int (v : Int)] ∧ 1 ≤ v ∧ v ≤ 5 ∧ k = .v ∧ P = fun d => ∃ ws : List Int, d = tupD ws ∧ ws.length = v ∧ Wts ws
def sp__law_deviation (K : PySem.W.Frag) : Sp := spD K fun ds k d => ∃ (ws as : List Int) (b : Int), ds = [tupD ws, tupD as] ∧ Wts ws ∧ Alc as (ws.length : Int) b ∧ b ≤ 20 ∧ k = .v ∧ d = lowD (devI ws as) ws.sum
def sp__law_apportioned (K : PySem.W.Frag) : Sp := spD K fun ds k d => ∃ (ws : List Int) (b : Int), ds = [tupD ws, .int b] ∧ Wts ws ∧ 0 ≤ b ∧ b ≤ 20 ∧ k = .v ∧ d = tupD (appL ws b)
theorem alc_small04 {v : Nat} {b : Int} (hb : 0 ≤ b) (h : ((v : Int) ≤ 3 ∧ b ≤ 20) ∨ ((v : Int) ≤ 5 ∧ b ≤ 6)) {n : Nat} (hn : n ≤ v) : (alcL b n).length ≤ 16807 := by
  refine Nat.le_trans (alcL_len hb n) ?_
  rcases h with ⟨h1, h2⟩ | ⟨h1, h2⟩
  · refine Nat.le_trans (Nat.pow_le_pow_left (show (b + 1).toNat ≤ 21 by omega) n) (Nat.le_trans (Nat.pow_le_pow_right (by decide) (show n ≤ 3 by omega)) (by decide))
  · refine Nat.le_trans (Nat.pow_le_pow_left (show (b + 1).toNat ≤ 7 by omega) n) (Nat.le_trans (Nat.pow_le_pow_right (by decide) (show n ≤ 5 by omega)) (by decide))
end Lm


/-! gcd, abs, zip of two lists that stay, max of a list of any data; k04's readings -/
namespace Lm
open PySem PySem.Spec PyProof.Rows L2
section
variable {c : Ct} {Γ : List (Option Rs)} {te ta tb : TE} {k ka kb k1 k2 : Kd} {i j : Int}
theorem e_gcd (ha : Ev c ta Γ ka (.int i)) (hb : Ev c tb Γ kb (.int j)) : Ev c (tCB rGcd (tCons ta (tCons tb tNil))) Γ .v (.int (gcI i j)) :=
  d_cb (a_cons ha (a_cons hb a_nil)) fun H O vs Q s q => by
    obtain ⟨x, y, rfl, b1, b2⟩ := s.two
    exact ⟨i, j, by rw [b1.int', b2.int'], q _ H Rr.rf (.int _)⟩
theorem e_absI (ha : Ev c ta Γ ka (.int i)) : Ev c (tCB (fun xs H Q => ∃ i, xs = [V.int i] ∧ Q (.int (if i < 0 then -i else i)) H) (tCons ta tNil)) Γ .v (.int (i.natAbs : Int)) :=
  d_cb (a_cons ha a_nil) fun H O vs Q s q => by
    obtain ⟨x, rfl, b1⟩ := s.one
    refine ⟨i, by rw [b1.int'], ?_⟩
    have : (if i < 0 then -i else i) = (i.natAbs : Int) := by split <;> omega
    rw [this]
    exact q _ H Rr.rf (.int _)
theorem i_zipLV {ds es : List PyData} (h1 : Ev c ta Γ k1 (.list ds)) (n1 : k1 ≠ .b) (h2 : Ev c tb Γ k2 (.list es)) (n2 : k2 ≠ .b) : EvI c (RZ.iZipA c.K (tCons ta (tCons tb tNil))) Γ true (zipD ds es) := fun H0 O H σ e R q =>
  h1 H0 O H σ e _ fun v1 H1 r1 s1 => h2 H0 O H1 σ (e.on r1) _ fun v2 H2 r2 s2 => by
    have r : Rr c H H2 := r1.tr r2
    have b1 : Bo c (mns H2 O) v1 (.list ds) := Res.frozen e r (Res.on e r1 r2 s1) n1
    have b2 : Bo c (mns H2 O) v2 (.list es) := Res.frozen (e.on r1) r2 s2 n2
    obtain ⟨p, xs, rfl, ok1, sl, al⟩ := b1.lst'
    obtain ⟨p2, ys, rfl, ok2, sl2, al2⟩ := b2.lst'
    refine ⟨p, p2, xs, ys, rfl, .inl ⟨mns_same.seq sl, mns_same.seq sl2, q _ H2 r ⟨(e.on r).j, ?_⟩⟩⟩
    have hl : (zipD ds es).length = min xs.length ys.length := by rw [al.len, al2.len]; simp [zipD]
    refine (walk_zipLs hl).mono (fun H h => ⟨h.lst ok1 sl, h.lst ok2 sl2⟩) fun i H v H' hi g w => ?_
    obtain ⟨T, u1, u2, rfl, hT, rfl, g1, g2⟩ := w
    obtain ⟨d1, hd1, bd1⟩ := al.get g1
    obtain ⟨d2, hd2, bd2⟩ := al2.get g2
    have sm : Same H (upd H T (.tup [u1, u2])) := fun b o z => by rw [upd_ne (ne_of_none z hT)]; exact z
    refine ⟨sm, .t [.d d1, .d d2], ?_, .tup (.inl (.inl upd_same)) (.cons (.leaf (.inr ⟨rfl, bd1⟩)) (.cons (.leaf (.inr ⟨rfl, bd2⟩)) .nil))⟩
    have : (ds.zip es)[i]? = some (d1, d2) := by rw [List.getElem?_zip_eq_some]; exact ⟨hd1, hd2⟩
    simp [zipD, this]
theorem i_zipLVI {ns ms : List Int} (h1 : Ev c ta Γ k1 (.list (ns.map .int))) (n1 : k1 ≠ .b) (h2 : Ev c tb Γ k2 (.list (ms.map .int))) (n2 : k2 ≠ .b) : EvI c (RZ.iZipA c.K (tCons ta (tCons tb tNil))) Γ true ((ns.zip ms).map zipI) := by
  have e : zipD (ns.map .int) (ms.map .int) = (ns.zip ms).map zipI := by
    unfold zipD
    rw [List.zip_map, List.map_map]
    rfl
  exact e ▸ i_zipLV h1 n1 h2 n2
end
end Lm
namespace L2
open PySem PySem.Spec PyProof.Rows Lm
def rMaxDL (K : PySem.W.Frag) : List V → Hp → VK → Prop := fun vs H Q => ∃ (a : Addr) (xs : List V) (d : PyData) (ds : List PyData), vs = [V.ref a] ∧ SqL K H a xs ∧ DpAll K H xs (d :: ds) ∧ PySem.W.AlikeAll (d :: ds) ∧ PyData.depthAll (d :: ds) ≤ 60 ∧
  ∀ q ∈ xs.zip (d :: ds), q.2 = PySem.W.maxD d ds → Q q.1 H
section
variable {X : Cx}
theorem cr_maxDL (hc : X.calm = true) (hu : X.A.units + 64 < cLine) : CallR X (.builtin "max") (rMaxDL X.K) := by
  intro pins s σ H vs us Q I r h
  obtain ⟨a, xs, d, ds, rfl, hs, hd, al, dp, q⟩ := h
  obtain ⟨its, rv, hl, hz⟩ := I.list hs
  rw [Vals.ref1 r]
  obtain ⟨as, ra⟩ := Dp.readsAll I _ _ its hd rv
  refine PySem.W.max_list_data (I.ok.hd hc) hl.isList (by simpa using ra) al (by omega) fun i v h' tk bs hv rm k => ?_
  obtain ⟨z, hz, e, rz⟩ := dp_item I hd rv (by simpa using hv) rm k
  exact ⟨z.1, H, I.kept k, rz, q z hz e⟩
theorem k_maxDL {K : PySem.W.Frag} (hK : X.K = K) (hc : X.calm = true) (hu : X.A.units + 64 < cLine) : CallR X (.builtin "max") (rMaxDL K) := hK ▸ cr_maxDL hc hu
end
end L2
namespace Lm
open PySem PySem.Spec PyProof.Rows L2
theorem e_maxDL {c : Ct} {Γ : List (Option Rs)} {te : TE} {k : Kd} {d m : PyData} {ds : List PyData} (h : Ev c te Γ k (.list (d :: ds))) (fl : flatAll (d :: ds) = true) (al : PySem.W.AlikeAll (d :: ds)) (dp : PyData.depthAll (d :: ds) ≤ 60) (em : PySem.W.maxD d ds = m) : Ev c (tCB (rMaxDL c.K) (tCons te tNil)) Γ .v m := fun H0 O H σ e Q q =>
  h H0 O H σ e _ fun v H1 r1 s1 => by
    obtain ⟨p, xs, rfl, _, sl, ab⟩ := (Res.bo e s1).lst'
    refine ⟨p, xs, d, ds, rfl, sl, ab.dp, al, dp, fun z hz ez => ?_⟩
    have bz := bo_mem ab z hz
    have fz : flatD z.2 = true := flatAll_one fl (List.of_mem_zip hz).2
    rw [ez, em] at bz fz
    exact q _ H1 r1 (Bo.flatM e r1 fz bz)
/-- the one that is more than all others -/
theorem maxD_is {m : PyData} (mm : PySem.W.dataLt m m = false) : ∀ {ds : List PyData} {d : PyData}, m ∈ d :: ds → (∀ e ∈ d :: ds, e = m ∨ (PySem.W.dataLt e m = true ∧ PySem.W.dataLt m e = false)) → PySem.W.maxD d ds = m
  | [], d, hm, _ => by
    have : m = d := by simpa using hm
    rw [this]; rfl
  | e :: ds, d, hm, h => by
    have st : PySem.W.maxD d (e :: ds) = PySem.W.maxD (if PySem.W.dataLt d e then e else d) ds := rfl
    rw [st]
    by_cases hd : d = m
    · have ne : PySem.W.dataLt d e = false := by
        rw [hd]
        rcases h e (by simp) with w | w
        · rw [w]; exact mm
        · exact w.2
      rw [ne]
      exact maxD_is mm (by rw [hd]; simp) fun x hx => h x (by
        rcases List.mem_cons.mp hx with w | w
        · rw [w]; simp
        · simp [w])
    · by_cases he : e = m
      · have lt : PySem.W.dataLt d e = true := by
          rw [he]
          exact ((h d (by simp)).resolve_left hd).1
        rw [lt]
        exact maxD_is mm (by rw [he]; simp) fun x hx => h x (by
          rcases List.mem_cons.mp hx with w | w
          · rw [w]; simp
          · simp [w])
      · have hm2 : m ∈ ds := by
          rcases List.mem_cons.mp hm with w | w
          · exact absurd w.symm hd
          · rcases List.mem_cons.mp w with w | w
            · exact absurd w.symm he
            · exact w
        exact maxD_is mm (by simp [hm2]) fun x hx => h x (by
          rcases List.mem_cons.mp hx with w | w
          · rw [w]; split <;> simp
          · simp [w])
/-! rows of two ints -/
theorem lt2 {a b c d : Int} : PySem.W.dataLt (tupD [a, b]) (tupD [c, d]) = decide (a < c ∨ (a = c ∧ b < d)) := by
  rw [dataLt_rows, decide_eq_decide]
  constructor
  · intro h
    rcases List.cons_lt_cons_iff.mp h with w | ⟨w, z⟩
    · exact .inl w
    · rcases List.cons_lt_cons_iff.mp z with z | ⟨_, z⟩
      · exact .inr ⟨w, z⟩
      · cases z
  · rintro (w | ⟨rfl, w⟩)
    · exact List.cons_lt_cons_iff.mpr (.inl w)
    · exact List.cons_lt_cons_iff.mpr (.inr ⟨rfl, List.cons_lt_cons_iff.mpr (.inl w)⟩)
theorem depth_rows {L : List (List Int)} : PyData.depthAll (L.map tupD) ≤ 60 := by
  have h1 : ∀ ms : List Int, PyData.depthAll (ms.map PyData.int) ≤ 1 := fun ms => by
    induction ms with
    | nil => exact Nat.zero_le _
    | cons n ns ih => exact Nat.max_le.mpr ⟨by simp [PyData.depth], ih⟩
  induction L with
  | nil => exact Nat.zero_le _
  | cons r L ih => exact Nat.max_le.mpr ⟨by show PyData.depthAll (r.map PyData.int) + 1 ≤ 60; have := h1 r; omega, ih⟩
def prR (r : List Int) (k : Nat) : List Int := [-(r.getD k 0), (k : Int)]
theorem gr_sorted (r : List Int) : ((grR r).map fun k => tupD (prR r k)).Pairwise fun a b => PySem.W.dataLt a b = true := by
  rw [List.pairwise_map]
  refine (grr_asc r).imp fun {a b} h => ?_
  unfold prR
  rw [lt2, decide_eq_true_eq]
  unfold rLt at h
  omega
/-- the next one is the greatest of those that are left -/
theorem gr_next (r : List Int) {t : Nat} (ht : t < r.length) {L : List Nat} (hL : ∀ k, k ∈ L ↔ (k < r.length ∧ k ∉ (grR r).take t)) : ∃ x L', L = x :: L' ∧ PySem.W.maxD (tupD [r.getD x 0, -(x : Int)]) (L'.map fun k => tupD [r.getD k 0, -(k : Int)]) = tupD [r.getD ((grR r).getD t 0) 0, -((grR r).getD t 0 : Int)] := by
  have gl := grr_len r
  have gt : (grR r).getD t 0 = (grR r)[t]'(by omega) := by simp [List.getD_eq_getElem?_getD, gl, ht]
  obtain ⟨g, eg⟩ : ∃ g, g = (grR r).getD t 0 := ⟨_, rfl⟩
  have gm : g ∈ grR r := by rw [eg, gt]; exact List.getElem_mem _
  have sp : grR r = (grR r).take t ++ g :: (grR r).drop (t + 1) := by
    rw [eg, gt, ← List.drop_eq_getElem_cons (by omega), List.take_append_drop]
  have nd := grr_nd r
  have pw := grr_asc r
  rw [sp] at nd pw
  have gn : g ∉ (grR r).take t := fun w => (List.nodup_append.mp nd).2.2 g w g (by simp) rfl
  have gL : g ∈ L := (hL g).mpr ⟨grr_mem.mp gm, gn⟩
  have best : ∀ k ∈ L, k = g ∨ rLt r g k := fun k hk => by
    obtain ⟨h1, h2⟩ := (hL k).mp hk
    have km := grr_mem.mpr h1
    rw [sp, List.mem_append, List.mem_cons] at km
    rcases km with w | w | w
    · exact absurd w h2
    · exact .inl w
    · exact .inr ((List.pairwise_cons.mp (List.pairwise_append.mp pw).2.1).1 k w)
  rw [← eg]
  cases L with
  | nil => cases gL
  | cons x L' =>
    refine ⟨x, L', rfl, maxD_is (by rw [lt2, decide_eq_false]; omega) (List.mem_map_of_mem (f := fun k => tupD [r.getD k 0, -(k : Int)]) gL) fun e he => ?_⟩
    obtain ⟨k, hk, rfl⟩ := List.mem_map.mp (show e ∈ (x :: L').map fun k => tupD [r.getD k 0, -(k : Int)] from he)
    rcases best k hk with w | w
    · rw [w]; exact .inl rfl
    · refine .inr ⟨?_, ?_⟩
      · rw [lt2, decide_eq_true_eq]; unfold rLt at w; omega
      · rw [lt2, decide_eq_false_iff_not]; unfold rLt at w; omega
def sp__law_pickI (K : PySem.W.Frag) : Sp := spS K fun ds k P => ∃ (ns : List Int) (Q : Int → Prop), ds = [.list (ns.map .int)] ∧ 0 < ns.length ∧ ns.length ≤ 1000 ∧ (∀ n ∈ ns, Q n) ∧ k = .v ∧ P = fun d => ∃ n : Int, d = .int n ∧ Q n
def appT (ws : List Int) (b : Int) (t : Nat) : List Int := (List.range ws.length).map fun k => (floL ws b).getD k 0 + if k ∈ (grR (rstL ws b)).take t then 1 else 0
theorem appT_zero {ws : List Int} {b : Int} : appT ws b 0 = floL ws b := by
  apply List.ext_getElem
  · simp [appT, flo_len]
  · intro k h1 h2
    rw [flo_len] at h2
    simp [appT, List.getD_eq_getElem?_getD, flo_len, h2]
theorem appT_up {ws : List Int} {b : Int} : appT ws b (upN ws b) = appL ws b := rfl
theorem appT_len {ws : List Int} {b : Int} {t : Nat} : (appT ws b t).length = ws.length := by simp [appT]
theorem appT_step {ws : List Int} {b : Int} {t g : Nat} (ht : t < ws.length) (eg : g = (grR (rstL ws b)).getD t 0) : (appT ws b t).set g ((appT ws b t).getD g 0 + 1) = appT ws b (t + 1) := by
  have gl : (grR (rstL ws b)).length = ws.length := by rw [grr_len, rst_len]
  have gt : g = (grR (rstL ws b))[t]'(by omega) := by rw [eg]; simp [List.getD_eq_getElem?_getD, gl, ht]
  have sp : (grR (rstL ws b)).take (t + 1) = (grR (rstL ws b)).take t ++ [g] := by
    rw [List.take_add_one, List.getElem?_eq_getElem (by omega), gt]; rfl
  have nd := grr_nd (rstL ws b)
  rw [← List.take_append_drop (t + 1) (grR (rstL ws b)), sp] at nd
  have gn : g ∉ (grR (rstL ws b)).take t := fun w => (List.nodup_append.mp (List.nodup_append.mp nd).1).2.2 g w g (by simp) rfl
  have gw : g < ws.length := by
    have : g ∈ grR (rstL ws b) := by rw [gt]; exact List.getElem_mem _
    have := grr_mem.mp this
    rwa [rst_len] at this
  have at_ : ∀ t k, k < ws.length → (appT ws b t).getD k 0 = (floL ws b).getD k 0 + if k ∈ (grR (rstL ws b)).take t then 1 else 0 := fun t k hk => by
    simp [appT, List.getD_eq_getElem?_getD, hk]
  apply List.ext_getElem
  · rw [List.length_set, appT_len, appT_len]
  · intro k h1 h2
    rw [appT_len] at h2
    rw [List.getElem_set]
    have e2 : (appT ws b (t + 1))[k]'(by rw [appT_len]; exact h2) = (appT ws b (t + 1)).getD k 0 := by simp [List.getD_eq_getElem?_getD, appT_len, h2]
    rw [e2, at_ (t + 1) k h2, sp]
    by_cases q : g = k
    · subst q
      rw [if_pos rfl, at_ t g gw, if_neg gn, if_pos (by simp)]
      omega
    · rw [if_neg q]
      have e1 : (appT ws b t)[k]'(by rw [appT_len]; exact h2) = (appT ws b t).getD k 0 := by simp [List.getD_eq_getElem?_getD, appT_len, h2]
      rw [e1, at_ t k h2]
      congr 1
      have : (k ∈ (grR (rstL ws b)).take t ++ [g]) ↔ k ∈ (grR (rstL ws b)).take t := by
        rw [List.mem_append, List.mem_singleton]
        exact ⟨fun w => w.resolve_right fun e => q e.symm, .inl⟩
      simp only [this]
theorem dev_rng {ws as : List Int} (hl : as.length = ws.length) : devI ws as = ((List.range ws.length).map fun k => ((as.getD k 0 * ws.sum - as.sum * ws.getD k 0).natAbs : Int)).sum := by
  unfold devI ovL
  rw [zip_rng04 hl, List.map_map, List.map_map]
  rfl
/-- Euclid's way: each step at least halves what they make together -/
theorem gcd_step {a b : Nat} (hb : 0 < b) : Nat.gcd b (a % b) = Nat.gcd a b := by
  rw [Nat.gcd_comm a b, Nat.gcd_rec b a, Nat.gcd_comm]
structure Euc (a b n x y : Nat) : Prop where
  g : Nat.gcd x y = Nat.gcd a b
  s : (n = 0 ∧ x = a ∧ y = b) ∨ (1 ≤ n ∧ y < x ∧ 2 ^ (n - 1) * (x * y) < 2 ^ 60)
theorem Euc.go {a b n x y : Nat} (h : Euc a b n x y) (hb : b < 2 ^ 30) (hy : 0 < y) : Euc a b (n + 1) y (x % y) := by
  have lt := Nat.mod_lt x hy
  refine ⟨(gcd_step hy).trans h.g, .inr ⟨by omega, lt, ?_⟩⟩
  rcases h.s with ⟨rfl, rfl, rfl⟩ | ⟨n1, yx, le⟩
  · have : y * (x % y) ≤ y * y := Nat.mul_le_mul_left _ (Nat.le_of_lt lt)
    have h2 : y * y ≤ 2 ^ 30 * y := Nat.mul_le_mul_right _ (Nat.le_of_lt hb)
    have h3 : 2 ^ 30 * y < 2 ^ 30 * 2 ^ 30 := Nat.mul_lt_mul_of_pos_left hb (by decide)
    have : (2 : Nat) ^ 30 * 2 ^ 30 = 2 ^ 60 := by decide
    show 2 ^ 0 * (y * (x % y)) < 2 ^ 60
    rw [Nat.pow_zero, Nat.one_mul]
    omega
  · have dm := Nat.div_add_mod x y
    have q1 : 1 ≤ x / y := Nat.div_pos (by omega) hy
    have : y * 1 ≤ y * (x / y) := Nat.mul_le_mul_left _ q1
    have h2 : 2 * (x % y) ≤ x := by omega
    have e : 2 ^ (n + 1 - 1) * (y * (x % y)) = 2 ^ (n - 1) * (y * (2 * (x % y))) := by
      rw [show n + 1 - 1 = (n - 1) + 1 by omega, Nat.pow_succ, Nat.mul_assoc, Nat.mul_left_comm 2 y]
    rw [e]
    refine Nat.lt_of_le_of_lt (Nat.mul_le_mul_left _ ?_) le
    rw [Nat.mul_comm x y]
    exact Nat.mul_le_mul_left _ h2
theorem Euc.fin {a b n x y : Nat} (h : Euc a b n x y) (hn : 61 ≤ n) : y = 0 := by
  rcases h.s with ⟨rfl, _⟩ | ⟨n1, yx, le⟩
  · omega
  · apply Classical.byContradiction
    intro ny
    have : 1 ≤ x * y := Nat.mul_pos (by omega) (by omega)
    have h1 : 2 ^ (n - 1) * 1 ≤ 2 ^ (n - 1) * (x * y) := Nat.mul_le_mul_left _ this
    have h2 : (2 : Nat) ^ 60 ≤ 2 ^ (n - 1) := Nat.pow_le_pow_right (by decide) (by omega)
    omega
theorem s_parD {c : Ct} {Γ : List (Option Rs)} {tx ty : TE} {P : Out → Prop} {x y : PyData} {i j : Nat} (hx : Ev c tx Γ .v x) (hy : Ev c ty Γ .v y) (p : P (.nx ((Γ.set i (some (.v x))).set j (some (.v y))))) : Sd c (tPar i j (tCons tx (tCons ty tNil))) Γ P := fun H0 O H σ D e s =>
  hx H0 O H σ e _ fun v1 H1 r1 s1 => hy H0 O H1 σ (e.on r1) _ fun v2 H2 r2 s2 => by
    have e2 := (e.on r1).on r2
    exact ⟨v1, v2, rfl, s _ p O H2 _ ((e2.setV (Res.on e r1 r2 s1)).setV s2)⟩
theorem e_int1 {c : Ct} {Γ : List (Option Rs)} {te : TE} {k : Kd} {i : Int} (h : Ev c te Γ k (.int i)) : Ev c (tCB (fun xs H Q => (∃ i, xs = [V.int i] ∧ Q (.int i) H) ∨ ∃ k, xs = [V.bl k] ∧ Q (.int (if k then 1 else 0)) H) (tCons te tNil)) Γ .v (.int i) :=
  d_cb (a_cons h a_nil) fun H O vs Q s q => by
    obtain ⟨x, rfl, b1⟩ := s.one
    exact .inl ⟨i, by rw [b1.int'], q _ H Rr.rf (.int _)⟩
end Lm


/-! the program's own text, by places -/
namespace W
open PySem PySem.Spec PyProof.Rows L2 Lm
def topS (i : Nat) : Stmt := PySem.Challenge.pw_leastmoved_k04_whole_nearest_allocations.main.body.getD i (.Pass ⟨0, 0, 0, 0⟩)
abbrev s_is_integer : Stmt := topS 7
abbrev n_is_integer : List Str := ["value", "least", "greatest"]
abbrev p_is_integer : List Str := ["value", "least", "greatest"]
theorem sc_is_integer : FnScope n_is_integer p_is_integer (defScope s_is_integer) := ⟨rfl, rfl, rfl, by decide +kernel, rfl, by decide +kernel, by decide +kernel⟩
abbrev s_are_integers : Stmt := topS 8
abbrev n_are_integers : List Str := ["value", "least", "greatest", "part"]
abbrev p_are_integers : List Str := ["value", "least", "greatest"]
theorem sc_are_integers : FnScope n_are_integers p_are_integers (defScope s_are_integers) := ⟨rfl, rfl, rfl, by decide +kernel, rfl, by decide +kernel, by decide +kernel⟩
abbrev s_require : Stmt := topS 9
abbrev n_require : List Str := ["holds", "name"]
abbrev p_require : List Str := ["holds", "name"]
theorem sc_require : FnScope n_require p_require (defScope s_require) := ⟨rfl, rfl, rfl, by decide +kernel, rfl, by decide +kernel, by decide +kernel⟩
abbrev s_in_lowest_terms : Stmt := topS 11
abbrev n_in_lowest_terms : List Str := ["number", "divisor", "common"]
abbrev p_in_lowest_terms : List Str := ["number", "divisor"]
theorem sc_in_lowest_terms : FnScope n_in_lowest_terms p_in_lowest_terms (defScope s_in_lowest_terms) := ⟨rfl, rfl, rfl, by decide +kernel, rfl, by decide +kernel, by decide +kernel⟩
abbrev s_is_bounded_allocation : Stmt := topS 14
abbrev n_is_bounded_allocation : List Str := ["value"]
abbrev p_is_bounded_allocation : List Str := ["value"]
theorem sc_is_bounded_allocation : FnScope n_is_bounded_allocation p_is_bounded_allocation (defScope s_is_bounded_allocation) := ⟨rfl, rfl, rfl, by decide +kernel, rfl, by decide +kernel, by decide +kernel⟩
abbrev s_are_weights : Stmt := topS 15
abbrev n_are_weights : List Str := ["value"]
abbrev p_are_weights : List Str := ["value"]
theorem sc_are_weights : FnScope n_are_weights p_are_weights (defScope s_are_weights) := ⟨rfl, rfl, rfl, by decide +kernel, rfl, by decide +kernel, by decide +kernel⟩
abbrev s_check_weighted : Stmt := topS 16
abbrev n_check_weighted : List Str := ["weights", "allocation"]
abbrev p_check_weighted : List Str := ["weights", "allocation"]
theorem sc_check_weighted : FnScope n_check_weighted p_check_weighted (defScope s_check_weighted) := ⟨rfl, rfl, rfl, by decide +kernel, rfl, by decide +kernel, by decide +kernel⟩
abbrev s_rests_of : Stmt := topS 17
abbrev n_rests_of : List Str := ["weights", "buckets", "weight"]
abbrev p_rests_of : List Str := ["weights", "buckets"]
theorem sc_rests_of : FnScope n_rests_of p_rests_of (defScope s_rests_of) := ⟨rfl, rfl, rfl, by decide +kernel, rfl, by decide +kernel, by decide +kernel⟩
abbrev s_by_largest_rests : Stmt := topS 18
abbrev n_by_largest_rests : List Str := ["weights", "buckets", "rests", "shares", "weight", "by_rest", "variant", "rest", "_"]
abbrev p_by_largest_rests : List Str := ["weights", "buckets"]
theorem sc_by_largest_rests : FnScope n_by_largest_rests p_by_largest_rests (defScope s_by_largest_rests) := ⟨rfl, rfl, rfl, by decide +kernel, rfl, by decide +kernel, by decide +kernel⟩
abbrev s_apportioned : Stmt := topS 19
abbrev n_apportioned : List Str := ["weights", "buckets"]
abbrev p_apportioned : List Str := ["weights", "buckets"]
theorem sc_apportioned : FnScope n_apportioned p_apportioned (defScope s_apportioned) := ⟨rfl, rfl, rfl, by decide +kernel, rfl, by decide +kernel, by decide +kernel⟩
abbrev s_surpluses : Stmt := topS 20
abbrev n_surpluses : List Str := ["weights", "allocation", "buckets", "weight", "share"]
abbrev p_surpluses : List Str := ["weights", "allocation"]
theorem sc_surpluses : FnScope n_surpluses p_surpluses (defScope s_surpluses) := ⟨rfl, rfl, rfl, by decide +kernel, rfl, by decide +kernel, by decide +kernel⟩
abbrev s_deviation : Stmt := topS 21
abbrev n_deviation : List Str := ["weights", "allocation", "distance", "surplus"]
abbrev p_deviation : List Str := ["weights", "allocation"]
theorem sc_deviation : FnScope n_deviation p_deviation (defScope s_deviation) := ⟨rfl, rfl, rfl, by decide +kernel, rfl, by decide +kernel, by decide +kernel⟩
abbrev s_is_nearest : Stmt := topS 22
abbrev n_is_nearest : List Str := ["weights", "allocation", "over", "surplus", "rests", "rounded_up", "rest", "rounded_down"]
abbrev p_is_nearest : List Str := ["weights", "allocation"]
theorem sc_is_nearest : FnScope n_is_nearest p_is_nearest (defScope s_is_nearest) := ⟨rfl, rfl, rfl, by decide +kernel, rfl, by decide +kernel, by decide +kernel⟩
abbrev s__law_stream : Stmt := topS 24
abbrev n__law_stream : List Str := ["script"]
abbrev p__law_stream : List Str := ["script"]
theorem sc__law_stream : FnScope n__law_stream p__law_stream (defScope s__law_stream) := ⟨rfl, rfl, rfl, by decide +kernel, rfl, by decide +kernel, by decide +kernel⟩
abbrev s__law_next : Stmt := topS 25
abbrev n__law_next : List Str := ["stream", "many", "k", "cell", "digit"]
abbrev p__law_next : List Str := ["stream", "many"]
theorem sc__law_next : FnScope n__law_next p__law_next (defScope s__law_next) := ⟨rfl, rfl, rfl, by decide +kernel, rfl, by decide +kernel, by decide +kernel⟩
abbrev s__law_is_integer : Stmt := topS 26
abbrev n__law_is_integer : List Str := ["actual"]
abbrev p__law_is_integer : List Str := ["actual"]
theorem sc__law_is_integer : FnScope n__law_is_integer p__law_is_integer (defScope s__law_is_integer) := ⟨rfl, rfl, rfl, by decide +kernel, rfl, by decide +kernel, by decide +kernel⟩
abbrev s__law_gcd : Stmt := topS 27
abbrev n__law_gcd : List Str := ["a", "b", "k"]
abbrev p__law_gcd : List Str := ["a", "b"]
theorem sc__law_gcd : FnScope n__law_gcd p__law_gcd (defScope s__law_gcd) := ⟨rfl, rfl, rfl, by decide +kernel, rfl, by decide +kernel, by decide +kernel⟩
abbrev s__law_low : Stmt := topS 28
abbrev n__law_low : List Str := ["n", "d", "shared"]
abbrev p__law_low : List Str := ["n", "d"]
theorem sc__law_low : FnScope n__law_low p__law_low (defScope s__law_low) := ⟨rfl, rfl, rfl, by decide +kernel, rfl, by decide +kernel, by decide +kernel⟩
abbrev s__law_equal : Stmt := topS 29
abbrev n__law_equal : List Str := ["actual", "due", "at"]
abbrev p__law_equal : List Str := ["actual", "due"]
theorem sc__law_equal : FnScope n__law_equal p__law_equal (defScope s__law_equal) := ⟨rfl, rfl, rfl, by decide +kernel, rfl, by decide +kernel, by decide +kernel⟩
abbrev s__law_pick : Stmt := topS 30
abbrev n__law_pick : List Str := ["stream", "rows"]
abbrev p__law_pick : List Str := ["stream", "rows"]
theorem sc__law_pick : FnScope n__law_pick p__law_pick (defScope s__law_pick) := ⟨rfl, rfl, rfl, by decide +kernel, rfl, by decide +kernel, by decide +kernel⟩
abbrev s__law_allocations : Stmt := topS 31
abbrev n__law_allocations : List Str := ["variants", "buckets", "rows", "variant", "longer", "row", "share"]
abbrev p__law_allocations : List Str := ["variants", "buckets"]
theorem sc__law_allocations : FnScope n__law_allocations p__law_allocations (defScope s__law_allocations) := ⟨rfl, rfl, rfl, by decide +kernel, rfl, by decide +kernel, by decide +kernel⟩
abbrev s__law_weights : Stmt := topS 32
abbrev n__law_weights : List Str := ["stream", "variants", "rows", "variant"]
abbrev p__law_weights : List Str := ["stream", "variants"]
theorem sc__law_weights : FnScope n__law_weights p__law_weights (defScope s__law_weights) := ⟨rfl, rfl, rfl, by decide +kernel, rfl, by decide +kernel, by decide +kernel⟩
abbrev s__law_deviation : Stmt := topS 33
abbrev n__law_deviation : List Str := ["weights", "allocation", "total", "buckets", "k"]
abbrev p__law_deviation : List Str := ["weights", "allocation"]
theorem sc__law_deviation : FnScope n__law_deviation p__law_deviation (defScope s__law_deviation) := ⟨rfl, rfl, rfl, by decide +kernel, rfl, by decide +kernel, by decide +kernel⟩
abbrev s__law_apportioned : Stmt := topS 34
abbrev n__law_apportioned : List Str := ["weights", "buckets", "total", "shares", "weight", "given", "turn", "rests", "k"]
abbrev p__law_apportioned : List Str := ["weights", "buckets"]
theorem sc__law_apportioned : FnScope n__law_apportioned p__law_apportioned (defScope s__law_apportioned) := ⟨rfl, rfl, rfl, by decide +kernel, rfl, by decide +kernel, by decide +kernel⟩
abbrev s_law : Stmt := topS 35
abbrev n_law : List Str := ["script", "stream", "many", "variants", "buckets", "weights", "told", "least", "allocation", "due"]
abbrev p_law : List Str := ["script"]
theorem sc_law : FnScope n_law p_law (defScope s_law) := ⟨rfl, rfl, rfl, by decide +kernel, rfl, by decide +kernel, by decide +kernel⟩
structure Txt (mg : Str → Option Value) : Prop where
  b_abs : mg "abs" = none
  b_all : mg "all" = none
  b_bool : mg "bool" = none
  b_enumerate : mg "enumerate" = none
  b_int : mg "int" = none
  b_isinstance : mg "isinstance" = none
  b_len : mg "len" = none
  b_list : mg "list" = none
  b_max : mg "max" = none
  b_min : mg "min" = none
  b_range : mg "range" = none
  b_sorted : mg "sorted" = none
  b_str : mg "str" = none
  b_sum : mg "sum" = none
  b_tuple : mg "tuple" = none
  b_zip : mg "zip" = none
  k_MOST_VARIANTS : ∃ t, mg "MOST_VARIANTS" = some (.int 5 t)
  k_MOST_BUCKETS : ∃ t, mg "MOST_BUCKETS" = some (.int 20 t)
  k_GREATEST_WEIGHT : ∃ t, mg "GREATEST_WEIGHT" = some (.int 1000000 t)
  i_gcd : mg "gcd" = some (.builtin "math.gcd")
end W

namespace W
open PySem PySem.Spec PyProof.Rows L2 Lm
theorem ok_is_integer {P : Program} {w : World} {K : PySem.W.Frag} {mg : Str → Option Value} {base : Heap} {f : Addr} {fd : FuncData} (F : Fun K "is_integer" "is_integer" s_is_integer f fd) (T : Txt mg) :
    FnOk P w K mg base CX0 1 f fd p_is_integer (sp_is_integer K) := by
  refine F.ok sc_is_integer (fun vs H Q E h => spD_len h (by rintro ds k d ⟨x, lo, hi, rfl, _⟩; rfl)) (fun cdv A outer s H vs Q E hr h => ⟨_, (pss_cons (ps_if (PW.pt (pw_or (pt_not (pt_val (pe_callB (k_isi (K := K) rfl) rfl T.b_isinstance (by decide +kernel) (pa_cons (pv 0) (pa_cons (pe_ty (n := "int") rfl T.b_int (by decide +kernel)) pa_nil))))) (pw_or1 (pt_val (pe_callB (k_isi (K := K) rfl) rfl T.b_isinstance (by decide +kernel) (pa_cons (pv 0) (pa_cons (pe_ty (n := "bool") rfl T.b_bool (by decide +kernel)) pa_nil))))))) (pss_one (ps_ret pe_bl)) pss_nil)
      (pss_one (ps_ret (pe_chain op_le op_le (pv 1) (pv 0) (pv 2))))), run_pure (N := n_is_integer) (fun ds k d hp => ?_) h⟩)
  obtain ⟨x, lo, hi, rfl, rfl, rfl⟩ := hp
  refine q_if (t_or (t_not (t_B (e_isi (d_var rfl) (kit_int x)))) fun _ => t_B (e_isi (d_var rfl) (kit_bool x))) (fun h => ?_) fun h => q_next ?_
  · refine q_ret d_bl (.inr ⟨rfl, rfl⟩) (.inl ?_)
    cases x <;> first | rfl | (simp [isIntTy, isBoolTy] at h)
  · cases x with
    | int i => exact s_ret (d_chain (d_var rfl) (d_var rfl) fun _ => d_var rfl) (.inr ⟨rfl, rfl⟩) (.inl rfl)
    | _ => simp [isIntTy, isBoolTy] at h

theorem ok_are_integers {P : Program} {w : World} {K : PySem.W.Frag} {mg : Str → Option Value} {base : Heap} {f : Addr} {fd : FuncData} (F : Fun K "are_integers" "are_integers" s_are_integers f fd) (T : Txt mg) (c_is_integer : Cal P w K mg base CX0 1 "is_integer" p_is_integer (sp_is_integer K)) :
    FnOk P w K mg base CX0 2 f fd p_are_integers (sp_are_integers K) := by
  refine F.ok sc_are_integers (fun vs H Q E h => spD_len h (by rintro ds k d ⟨x, lo, hi, rfl, _⟩; rfl)) (fun cdv A outer s H vs Q E hr h => ⟨_, (pss_one (ps_ret (pe_and (pe_callB (k_isi (K := K) rfl) rfl T.b_isinstance (by decide +kernel) (pa_cons (pv 0) (pa_cons (pe_ty (n := "tuple") rfl T.b_tuple (by decide +kernel)) pa_nil))) (pe_one (pe_callB (k_all (K := K) rfl rfl) rfl T.b_all (by decide +kernel) (pa_cons (pe_lc rfl sc_are_integers.nd (k_seq (K := K) rfl (pv 0)) (blkOk_by (own := [("part", 3)]) (N := n_are_integers) (sc := defScope s_are_integers) (by decide +kernel)) (fun _ _ _ _ _ => by exact (pg_name (i := 3) sc_are_integers.nd rfl (Or.inl rfl))) (fun _ _ _ _ _ => by exact pts_nil) (fun _ _ _ _ _ => by exact (pe_cal c_is_integer (hr.mono (by decide)) rfl pass0 (pa_cons (pv 3) (pa_cons (pv 1) (pa_cons (pv 2) pa_nil)))))) pa_nil)))))), run_pure (N := n_are_integers) (fun ds k d hp => ?_) h⟩)
  obtain ⟨x, lo, hi, rfl, hx, rfl, rfl⟩ := hp
  refine s_ret ((d_andV (b := areInts x lo hi) (e_isi (d_var rfl) (kit_tuple x)) fun hx' => ?_).to ?_) (.inr ⟨rfl, rfl⟩) (.inl rfl)
  · cases x with
    | tuple es =>
      refine (d_all (d_lcB (fun d => isIntD d lo hi) (i_seqT (d_var rfl) (by intro h; cases h)) (hx es rfl) fun a _ => ⟨_, _, g_name, fun j hj => hj, _, d_call (a_cons (d_var rfl) (a_cons (d_var rfl) (a_cons (d_var rfl) a_nil))) ⟨a, lo, hi, rfl, rfl, rfl⟩⟩)).to ?_
      show PyData.bool _ = .bool (es.all fun d => isIntD d lo hi)
      rw [List.all_map]
      rfl
    | _ => simp [isTupTy] at hx'
  · cases x <;> simp [isTupTy, areInts]

theorem ok_require {P : Program} {w : World} {K : PySem.W.Frag} {mg : Str → Option Value} {base : Heap} {f : Addr} {fd : FuncData} (F : Fun K "require" "require" s_require f fd) (T : Txt mg) :
    FnOk P w K mg base CX0 1 f fd p_require (sp_require K) := by
  refine F.ok sc_require (fun vs H Q E h => spD_len h (by rintro ds k d ⟨nm, rfl, _⟩; rfl)) (fun cdv A outer s H vs Q E hr h => ⟨_, (pss_one (ps_if (pt_not (pt_val (pv 0))) (pss_one ps_never) pss_nil)), run_pure (N := n_require) (fun ds k d hp => ?_) h⟩)
  obtain ⟨nm, rfl, rfl, rfl⟩ := hp
  exact s_no ((t_not (t_B (d_var (d := .bool true) rfl))).to rfl) (s_next (.inr ⟨rfl, rfl, _, rfl⟩))

theorem ok_in_lowest_terms {P : Program} {w : World} {K : PySem.W.Frag} {mg : Str → Option Value} {base : Heap} {f : Addr} {fd : FuncData} (F : Fun K "in_lowest_terms" "in_lowest_terms" s_in_lowest_terms f fd) (T : Txt mg) :
    FnOk P w K mg base CX0 1 f fd p_in_lowest_terms (sp_in_lowest_terms K) := by
  refine F.ok sc_in_lowest_terms (fun vs H Q E h => spD_len h (by rintro ds k d ⟨n, m, rfl, _⟩; rfl)) (fun cdv A outer s H vs Q E hr h => ⟨_, (pss_cons (ps_set (i := 2) sc_in_lowest_terms.nd rfl (Or.inl rfl) (pe_callBfun cr_gcd rfl T.i_gcd (pa_cons (pv 0) (pa_cons (pv 1) pa_nil))))
      (pss_one (ps_ret (pe_tupN (pa_cons (pe_op op_fdiv (pv 0) (pv 2)) (pa_cons (pe_op op_fdiv (pv 1) (pv 2)) pa_nil)))))), run_pure (N := n_in_lowest_terms) (fun ds k d hp => ?_) h⟩)
  obtain ⟨n, m, rfl, h0, h1, rfl, rfl⟩ := hp
  have g0 := gc_pos (n := n) h0
  have g1 := gc_le (n := n) h0
  refine q_asg (d := .int (gcI n m)) (e_gcd (d_var rfl) (d_var rfl)) ?_
  exact s_ret (d_tup (a_consV (d_fdiv (d_var rfl) (d_var rfl) ⟨g0, by omega⟩) (a_consV (d_fdiv (d_var rfl) (d_var rfl) ⟨g0, by omega⟩) a_nil)) (by simp)) (.inr ⟨rfl, rfl⟩) (.inl rfl)

theorem ok_is_bounded_allocation {P : Program} {w : World} {K : PySem.W.Frag} {mg : Str → Option Value} {base : Heap} {f : Addr} {fd : FuncData} (F : Fun K "is_bounded_allocation" "is_bounded_allocation" s_is_bounded_allocation f fd) (T : Txt mg) (c_are_integers : Cal P w K mg base CX0 2 "are_integers" p_are_integers (sp_are_integers K)) :
    FnOk P w K mg base CX0 3 f fd p_is_bounded_allocation (sp_is_bounded_allocationX K) := by
  refine F.ok sc_is_bounded_allocation (fun vs H Q E h => spD_len h (by rintro ds k d ⟨x, rfl, _⟩; rfl)) (fun cdv A outer s H vs Q E hr h => ⟨_, (pss_cons (ps_if (pt_not (pt_val (pe_cal c_are_integers (hr.mono (by decide)) rfl pass0 (pa_cons (pv 0) (pa_cons pe_int (pa_cons (pe_const rfl T.k_MOST_BUCKETS) pa_nil)))))) (pss_one (ps_ret pe_bl)) pss_nil)
      (pss_one (ps_ret (pe_and (pe_chain op_le op_le pe_int (pe_callB (k_len (K := K) rfl) rfl T.b_len (by decide +kernel) (pa_cons (pv 0) pa_nil)) (pe_const rfl T.k_MOST_VARIANTS)) (pe_one (pe_cmpR op_le (pe_callB (k_sum (K := K) rfl rfl) rfl T.b_sum (by decide +kernel) (pa_cons (pv 0) pa_nil)) (pe_const rfl T.k_MOST_BUCKETS) (nomark _))))))), run_pure (N := n_is_bounded_allocation) (fun ds k d hp => ?_) h⟩)
  obtain ⟨x, rfl, hx, rfl, rfl⟩ := hp
  refine q_if (a := !areInts x 0 20) (t_not (t_B (d_call (k := .v) (a_cons (d_var rfl) (a_cons d_int (a_cons d_int a_nil))) ⟨x, 0, 20, rfl, hx, rfl, rfl⟩))) (fun w => ?_) fun w => q_next ?_
  · rw [Bool.not_eq_true'] at w
    exact q_ret (d_bl.to (by unfold balB; rw [w]; rfl)) (.inr ⟨rfl, rfl⟩) (.inl rfl)
  · rw [Bool.not_eq_false'] at w
    obtain ⟨ns, rfl, _⟩ := areInts_ints w
    refine s_ret ((d_andV (d_chain d_int (d_lenT (d_var rfl)) fun _ => d_int) fun _ => d_le (e_sumT (d_var rfl)) d_int).to ?_) (.inr ⟨rfl, rfl⟩) (.inl rfl)
    unfold balB
    rw [w, lenT_ints, sumT_ints, List.length_map, Bool.true_and]
    congr 2
    congr 1
    · rw [decide_eq_decide]; omega
    · rw [decide_eq_decide]; omega

theorem ok_are_weights {P : Program} {w : World} {K : PySem.W.Frag} {mg : Str → Option Value} {base : Heap} {f : Addr} {fd : FuncData} (F : Fun K "are_weights" "are_weights" s_are_weights f fd) (T : Txt mg) (c_are_integers : Cal P w K mg base CX0 2 "are_integers" p_are_integers (sp_are_integers K)) :
    FnOk P w K mg base CX0 3 f fd p_are_weights (sp_are_weights K) := by
  refine F.ok sc_are_weights (fun vs H Q E h => spD_len h (by rintro ds k d ⟨x, rfl, _⟩; rfl)) (fun cdv A outer s H vs Q E hr h => ⟨_, (pss_one (ps_ret (pe_and (pe_cal c_are_integers (hr.mono (by decide)) rfl pass0 (pa_cons (pv 0) (pa_cons pe_int (pa_cons (pe_const rfl T.k_GREATEST_WEIGHT) pa_nil)))) (pe_and (pe_chain op_le op_le pe_int (pe_callB (k_len (K := K) rfl) rfl T.b_len (by decide +kernel) (pa_cons (pv 0) pa_nil)) (pe_const rfl T.k_MOST_VARIANTS)) (pe_one (pe_cmpR op_gt (pe_callB (k_sum (K := K) rfl rfl) rfl T.b_sum (by decide +kernel) (pa_cons (pv 0) pa_nil)) pe_int (nomark _))))))), run_pure (N := n_are_weights) (fun ds k d hp => ?_) h⟩)
  obtain ⟨x, rfl, hx, rfl, rfl⟩ := hp
  refine s_ret (d_andV (b := (decide (1 ≤ lenT x) && decide (lenT x ≤ 5)) && decide (0 < sumT x)) (d_call (k := .v) (a_cons (d_var rfl) (a_cons d_int (a_cons d_int a_nil))) ⟨x, 0, 1000000, rfl, hx, rfl, rfl⟩) fun w => ?_) (.inr ⟨rfl, rfl⟩) (.inl rfl)
  obtain ⟨ns, rfl, _⟩ := areInts_ints w
  refine (d_andV (d_chain d_int (d_lenT (d_var rfl)) fun _ => d_int) fun _ => d_gt (e_sumT (d_var rfl)) d_int).to ?_
  rw [lenT_ints, sumT_ints, List.length_map]
  congr 2
  congr 1
  · rw [decide_eq_decide]; omega
  · rw [decide_eq_decide]; omega

theorem ok_check_weighted {P : Program} {w : World} {K : PySem.W.Frag} {mg : Str → Option Value} {base : Heap} {f : Addr} {fd : FuncData} (F : Fun K "check_weighted" "check_weighted" s_check_weighted f fd) (T : Txt mg) (c_require : Cal P w K mg base CX0 1 "require" p_require (sp_require K)) (c_are_weights : Cal P w K mg base CX0 3 "are_weights" p_are_weights (sp_are_weights K)) (c_is_bounded_allocation : Cal P w K mg base CX0 3 "is_bounded_allocation" p_is_bounded_allocation (sp_is_bounded_allocationX K)) :
    FnOk P w K mg base CX0 4 f fd p_check_weighted (sp_check_weighted K) := by
  refine F.ok sc_check_weighted (fun vs H Q E h => spD_len h (by rintro ds k d ⟨ws, as, b, rfl, _⟩; rfl)) (fun cdv A outer s H vs Q E hr h => ⟨_, (pss_cons (ps_expr (pe_cal c_require (hr.mono (by decide)) rfl pass0 (pa_cons (pe_cal c_are_weights (hr.mono (by decide)) rfl pass0 (pa_cons (pv 0) pa_nil)) (pa_cons pe_str pa_nil))))
      (pss_one (ps_expr (pe_cal c_require (hr.mono (by decide)) rfl pass0 (pa_cons (pe_and (pe_cal c_is_bounded_allocation (hr.mono (by decide)) rfl pass0 (pa_cons (pv 1) pa_nil)) (pe_one (pe_cmpR (k_eq (K := K) rfl (rUnits hr)) (pe_callB (k_len (K := K) rfl) rfl T.b_len (by decide +kernel) (pa_cons (pv 1) pa_nil)) (pe_callB (k_len (K := K) rfl) rfl T.b_len (by decide +kernel) (pa_cons (pv 0) pa_nil)) (nomark _)))) (pa_cons pe_str pa_nil)))))), run_pure (N := n_check_weighted) (fun ds k d hp => ?_) h⟩)
  obtain ⟨ws, as, b, rfl, h, ha, b20, rfl, rfl⟩ := hp
  have l1 := h.l1
  have l5 := h.l5
  have la := ha.len
  refine q_drop (d_call (k := .v) (d := .none) (a_cons (d_call (k := .v) (d := .bool true) (a_cons (d_var rfl) a_nil) ⟨tupD ws, rfl, small_ints (by omega), rfl, by rw [h.isB]⟩) (a_cons d_str a_nil)) ⟨_, rfl, rfl, rfl⟩) ?_
  exact s_drop (d_call (k := .v) (d := .none) (a_cons (Ev.to (d_andV (a := true) (d_call (k := .v) (d := .bool true) (a_cons (d_var rfl) a_nil) ⟨tupD as, rfl, small_ints (by omega), rfl, by rw [ha.bal (by omega) (by omega) b20]⟩) fun _ => e_eqI (d_lenT (d_var rfl)) (d_lenT (d_var rfl))) (y := .bool true) (by rw [List.length_map, List.length_map, la, decide_eq_true rfl]; rfl)) (a_cons d_str a_nil)) ⟨_, rfl, rfl, rfl⟩) (.inr ⟨rfl, rfl, _, rfl⟩)

theorem ok_rests_of {P : Program} {w : World} {K : PySem.W.Frag} {mg : Str → Option Value} {base : Heap} {f : Addr} {fd : FuncData} (F : Fun K "rests_of" "rests_of" s_rests_of f fd) (T : Txt mg) :
    FnOk P w K mg base CX0 1 f fd p_rests_of (sp_rests_of K) := by
  refine F.ok sc_rests_of (fun vs H Q E h => spD_len h (by rintro ds k d ⟨ws, b, rfl, _⟩; rfl)) (fun cdv A outer s H vs Q E hr h => ⟨_, (pss_one (ps_ret (pe_lc rfl sc_rests_of.nd (k_seq (K := K) rfl (pv 0)) (blkOk_by (own := [("weight", 2)]) (N := n_rests_of) (sc := defScope s_rests_of) (by decide +kernel)) (fun _ _ _ _ _ => by exact (pg_name (i := 2) sc_rests_of.nd rfl (Or.inl rfl))) (fun _ _ _ _ _ => by exact pts_nil) (fun _ _ _ _ _ => by exact (pe_op op_mod (pe_op op_mulA (pv 1) (pv 2)) (pe_callB (k_sum (K := K) rfl rfl) rfl T.b_sum (by decide +kernel) (pa_cons (pv 0) pa_nil))))))), run_pure (N := n_rests_of) (fun ds k d hp => ?_) h⟩)
  obtain ⟨ws, b, rfl, h, b0, b20, rfl, rfl⟩ := hp
  have l5 := h.l5
  have s5 := h.sum5
  have p := h.pos
  exact s_ret (d_lcI (l := ws) (en := imI) (fun x => b * x % ws.sum) (i_seqTI (d_var rfl) kv_ne) (by omega) fun x hx => ⟨_, _, g_name, fun j hj => hj, .v, d_mod (e_mul (d_var rfl) (d_var rfl) (.inl ⟨by omega, by omega⟩)) (e_sumT (d_var rfl)) p⟩) (.inl rfl) (.inl rfl)

theorem ok_by_largest_rests {P : Program} {w : World} {K : PySem.W.Frag} {mg : Str → Option Value} {base : Heap} {f : Addr} {fd : FuncData} (F : Fun K "by_largest_rests" "by_largest_rests" s_by_largest_rests f fd) (T : Txt mg) (c_rests_of : Cal P w K mg base CX0 1 "rests_of" p_rests_of (sp_rests_of K)) :
    FnOk P w K mg base CX0 2 f fd p_by_largest_rests (sp_by_largest_rests K) := by
  refine F.ok sc_by_largest_rests (fun vs H Q E h => spD_len h (by rintro ds k d ⟨ws, b, rfl, _⟩; rfl)) (fun cdv A outer s H vs Q E hr h => ⟨_, (pss_cons (ps_set (i := 2) sc_by_largest_rests.nd rfl (Or.inl rfl) (pe_cal c_rests_of (hr.mono (by decide)) rfl pass0 (pa_cons (pv 0) (pa_cons (pv 1) pa_nil))))
      (pss_cons (ps_setLc (i := 3) rfl sc_by_largest_rests.nd rfl rfl (sw_true rfl rfl rfl (by decide +kernel)) (k_seq (K := K) rfl (pv 0)) (blkOk_by (own := [("weight", 4)]) (N := n_by_largest_rests) (sc := defScope s_by_largest_rests) (by decide +kernel)) (fun _ _ _ _ _ => by exact (pg_name (i := 4) sc_by_largest_rests.nd rfl (Or.inl rfl))) (fun _ _ _ _ _ => by exact pts_nil) (fun _ _ _ _ _ => by exact (pe_op op_fdiv (pe_op op_mulA (pv 1) (pv 4)) (pe_callB (k_sum (K := K) rfl rfl) rfl T.b_sum (by decide +kernel) (pa_cons (pv 0) pa_nil)))))
      (pss_cons (ps_set (i := 5) sc_by_largest_rests.nd rfl (Or.inl rfl) (pe_callB (k_sortedD (K := K) rfl (rUnits hr)) rfl T.b_sorted (by decide +kernel) (pa_cons (pe_lc rfl sc_by_largest_rests.nd (k_enum (K := K) rfl rfl T.b_enumerate (pa_cons (pv 2) pa_nil)) (blkOk_by (own := [("variant", 6), ("rest", 7)]) (N := n_by_largest_rests) (sc := defScope s_by_largest_rests) (by decide +kernel)) (fun _ _ _ _ _ => by exact (k_tup (K := K) (n := 2) rfl rfl (pgs_cons (pg_name (i := 6) sc_by_largest_rests.nd rfl (Or.inl rfl)) (pgs_cons (pg_name (i := 7) sc_by_largest_rests.nd rfl (Or.inl rfl)) pgs_nil)))) (fun _ _ _ _ _ => by exact pts_nil) (fun _ _ _ _ _ => by exact (pe_tupN (pa_cons (pe_un un_neg (pv 7)) (pa_cons (pv 6) pa_nil))))) pa_nil)))
      (pss_cons (ps_for PassesOwn.never rfl (k_seq (K := K) rfl (pe_slice (k_slU (K := K) rfl) (pv 5) po_none (po_some (pe_op op_sub (pv 1) (pe_callB (k_sum (K := K) rfl rfl) rfl T.b_sum (by decide +kernel) (pa_cons (pv 3) pa_nil)))))) (k_tup (K := K) (n := 2) rfl rfl (pgs_cons (pg_name (i := 8) sc_by_largest_rests.nd rfl (Or.inl rfl)) (pgs_cons (pg_name (i := 6) sc_by_largest_rests.nd rfl (Or.inl rfl)) pgs_nil))) (pss_one (ps_augS (pv 3) (pv 6) (k_getL (K := K) rfl) pe_int ip_add set_list)))
      (pss_one (ps_ret (pe_callTy (k_tuple (K := K) rfl) rfl T.b_tuple (by decide +kernel) (pa_cons (pv 3) pa_nil)))))))), run_pure (N := n_by_largest_rests) (fun ds k d hp => ?_) h⟩)
  obtain ⟨ws, b, rfl, h, b0, b20, rfl, rfl⟩ := hp
  have l5 := h.l5
  have s5 := h.sum5
  have p := h.pos
  have rl : (rstL ws b).length = ws.length := rst_len
  refine q_asgO (d := .list ((rstL ws b).map .int)) (d_call (k := .o) (a_cons (d_var rfl) (a_cons (d_var rfl) a_nil)) ⟨ws, b, rfl, h, b0, b20, rfl, rfl⟩) ?_
  refine q_asgO (d := .list ((floL ws b).map .int)) (d_lcI (l := ws) (en := imI) (fun x => b * x / ws.sum) (i_seqTI (d_var rfl) kv_ne) (by omega) fun x hx => ⟨_, _, g_name, fun j hj => hj, .v, d_fdiv (e_mul (d_var rfl) (d_var rfl) (.inl ⟨by omega, by omega⟩)) (e_sumT (d_var rfl)) ⟨p, by omega⟩⟩) ?_
  refine s_freeze (n := 2) rfl ?_
  have en : enumI ((rstL ws b).map .int) = (List.range (rstL ws b).length).map fun k => Im.t [.d (.int (k : Nat)), .d (.int ((rstL ws b).getD k 0))] := by
    apply List.ext_getElem
    · simp [enumI]
    · intro k h1 h2
      simp at h2
      simp [enumI, List.getD_eq_getElem?_getD, h2]
  have flr : flatAll ((List.range (rstL ws b).length).map fun k => tupD (prR (rstL ws b) k)) = true := by
    rw [show ((List.range (rstL ws b).length).map fun k => tupD (prR (rstL ws b) k)) = ((List.range (rstL ws b).length).map (prR (rstL ws b))).map tupD by rw [List.map_map]; rfl]
    exact fl_rows _
  refine q_asgO (d := .list ((grR (rstL ws b)).map fun k => tupD (prR (rstL ws b) k))) (e_sortedD (ds := (List.range (rstL ws b).length).map fun k => tupD (prR (rstL ws b) k)) (d_lcA (l := List.range (rstL ws b).length) (en := fun k => Im.t [.d (.int (k : Nat)), .d (.int ((rstL ws b).getD k 0))]) (fun k => tupD (prR (rstL ws b) k)) (i_enumL' (d_var rfl) kv_ne en) (by simp; omega) fun k hk => ⟨_, _, g_tup rfl (g_cons g_name (g_cons g_name g_nil)), fun j hj => hj, (d_tup (a_consV (e_neg (d_var rfl)) (a_consV (d_var rfl) a_nil)) (by simp)).fo (flatT (prR (rstL ws b) k))⟩)
    flr (by simp; omega) (PySem.W.AllAlike.of fun s t => alike_rows _ _) (PySem.W.Sortable.tuples fun s => ⟨_, _, rfl⟩) (fun d hd => ?_) ((grr_perm _).map _) (gr_sorted _)) ?_
  · obtain ⟨k, _, rfl⟩ := List.mem_map.mp hd
    simp [prR, tupD, PyData.depth, PyData.depthAll]
  have ui := up_is (b := b) h
  have ul := up_le (b := b) h
  have gl : (grR (rstL ws b)).length = ws.length := by rw [grr_len, rl]
  refine s_freeze (n := 5) rfl ?_
  refine q_for (i_seqL (ds := ((grR (rstL ws b)).take (upN ws b)).map fun k => tupD (prR (rstL ws b) k)) (Ev.to (e_slLV (d_var rfl) o_none (o_some (Ev.to (d_sub (d_var rfl) (e_sumL (d_varO rfl))) (y := .int ((upN ws b : Nat) : Int)) (by rw [ui])))) ?_) kv_ne)
    (fun t Γ1 => ∃ t6 t8, Γ1 = [some (.v (tupD ws)), some (.v (.int b)), some (.v (.list ((rstL ws b).map .int))), some (.o (.list ((appT ws b t).map .int))), none, some (.v (.list ((grR (rstL ws b)).map fun k => tupD (prR (rstL ws b) k)))), t6, none, t8]) ⟨_, _, by rw [appT_zero]; rfl⟩ (fun t a Γ1 ht' hI => ?_) (fun Γ1 hI => ?_)
  · rw [cutD_hi (by rw [List.length_map]; omega), List.map_take]
  · obtain ⟨t6, t8, rfl⟩ := hI
    have ht : t < upN ws b := by
      have := (List.getElem?_eq_some_iff.mp ht').1
      simp at this
      omega
    have tw : t < ws.length := by omega
    obtain ⟨g, eg⟩ : ∃ g, g = (grR (rstL ws b)).getD t 0 := ⟨_, rfl⟩
    have ea : a = .d (tupD (prR (rstL ws b) g)) := by
      rw [List.map_map, List.getElem?_map, List.getElem?_take_of_lt ht, List.getElem?_eq_getElem (by omega)] at ht'
      have := (Option.some.inj ht').symm
      rw [this, eg]
      simp [List.getD_eq_getElem?_getD, gl, tw]
    subst ea
    have gw : g < ws.length := by
      have : g ∈ grR (rstL ws b) := by rw [eg]; simp [List.getD_eq_getElem?_getD, gl, tw]
      have := grr_mem.mp this
      omega
    refine ⟨_, _, g_tupD rfl (g_cons g_name (g_cons g_name g_nil)), s_augL (m := g) rfl (d_var rfl) (by rw [appT_len]; exact gw) d_int (.inl ⟨_, .inl rfl, some (.v (.int (g : Int))), some (.v (.int (-((rstL ws b).getD g 0)))), ?_⟩)⟩
    rw [show (appT ws b t).set g ((appT ws b t).getD g 0 + 1) = appT ws b (t + 1) from appT_step tw eg]
    rfl
  · obtain ⟨t6, t8, rfl⟩ := hI
    have e : ((((grR (rstL ws b)).take (upN ws b)).map fun k => tupD (prR (rstL ws b) k)).map Im.d).length = upN ws b := by simp; omega
    rw [e, appT_up]
    exact s_ret (d_tuple (d_varO rfl) (flatAll_ints _)) (.inr ⟨rfl, flatAll_ints _⟩) (.inl rfl)

theorem ok_apportioned {P : Program} {w : World} {K : PySem.W.Frag} {mg : Str → Option Value} {base : Heap} {f : Addr} {fd : FuncData} (F : Fun K "apportioned" "apportioned" s_apportioned f fd) (T : Txt mg) (c_require : Cal P w K mg base CX0 1 "require" p_require (sp_require K)) (c_by_largest_rests : Cal P w K mg base CX0 2 "by_largest_rests" p_by_largest_rests (sp_by_largest_rests K)) (c_are_weights : Cal P w K mg base CX0 3 "are_weights" p_are_weights (sp_are_weights K)) (c_is_integer : Cal P w K mg base CX0 1 "is_integer" p_is_integer (sp_is_integer K)) :
    FnOk P w K mg base CX0 4 f fd p_apportioned (sp_apportioned K) := by
  refine F.ok sc_apportioned (fun vs H Q E h => spD_len h (by rintro ds k d ⟨ws, b, rfl, _⟩; rfl)) (fun cdv A outer s H vs Q E hr h => ⟨_, (pss_cons (ps_expr (pe_cal c_require (hr.mono (by decide)) rfl pass0 (pa_cons (pe_cal c_are_weights (hr.mono (by decide)) rfl pass0 (pa_cons (pv 0) pa_nil)) (pa_cons pe_str pa_nil))))
      (pss_cons (ps_expr (pe_cal c_require (hr.mono (by decide)) rfl pass0 (pa_cons (pe_cal c_is_integer (hr.mono (by decide)) rfl pass0 (pa_cons (pv 1) (pa_cons pe_int (pa_cons (pe_const rfl T.k_MOST_BUCKETS) pa_nil)))) (pa_cons pe_str pa_nil))))
      (pss_one (ps_ret (pe_cal c_by_largest_rests (hr.mono (by decide)) rfl pass0 (pa_cons (pv 0) (pa_cons (pv 1) pa_nil))))))), run_pure (N := n_apportioned) (fun ds k d hp => ?_) h⟩)
  obtain ⟨ws, b, rfl, h, b0, b20, rfl, rfl⟩ := hp
  have l5 := h.l5
  refine q_drop (d_call (k := .v) (d := .none) (a_cons (d_call (k := .v) (d := .bool true) (a_cons (d_var rfl) a_nil) ⟨tupD ws, rfl, small_ints (by omega), rfl, by rw [h.isB]⟩) (a_cons d_str a_nil)) ⟨_, rfl, rfl, rfl⟩) ?_
  refine q_drop (d_call (k := .v) (d := .none) (a_cons (d_call (k := .v) (d := .bool true) (a_cons (d_var rfl) (a_cons d_int (a_cons d_int a_nil))) ⟨.int b, 0, 20, rfl, rfl, by simp [isIntD]; omega⟩) (a_cons d_str a_nil)) ⟨_, rfl, rfl, rfl⟩) ?_
  exact s_ret (d_call (k := .v) (a_cons (d_var rfl) (a_cons (d_var rfl) a_nil)) ⟨ws, b, rfl, h, b0, b20, rfl, rfl⟩) (.inr ⟨rfl, flatT _⟩) (.inl rfl)

theorem ok_surpluses {P : Program} {w : World} {K : PySem.W.Frag} {mg : Str → Option Value} {base : Heap} {f : Addr} {fd : FuncData} (F : Fun K "surpluses" "surpluses" s_surpluses f fd) (T : Txt mg) :
    FnOk P w K mg base CX0 1 f fd p_surpluses (sp_surpluses K) := by
  refine F.ok sc_surpluses (fun vs H Q E h => spD_len h (by rintro ds k d ⟨ws, as, b, rfl, _⟩; rfl)) (fun cdv A outer s H vs Q E hr h => ⟨_, (pss_cons (ps_set (i := 2) sc_surpluses.nd rfl (Or.inr rfl) (pe_callB (k_sum (K := K) rfl rfl) rfl T.b_sum (by decide +kernel) (pa_cons (pv 1) pa_nil)))
      (pss_one (ps_ret (pe_lc rfl sc_surpluses.nd (k_zip (K := K) rfl rfl T.b_zip (pa_cons (pv 0) (pa_cons (pv 1) pa_nil))) (blkOk_by (own := [("weight", 3), ("share", 4)]) (N := n_surpluses) (sc := defScope s_surpluses) (by decide +kernel)) (fun _ _ _ _ _ => by exact (k_tup (K := K) (n := 2) rfl rfl (pgs_cons (pg_name (i := 3) sc_surpluses.nd rfl (Or.inl rfl)) (pgs_cons (pg_name (i := 4) sc_surpluses.nd rfl (Or.inl rfl)) pgs_nil)))) (fun _ _ _ _ _ => by exact pts_nil) (fun _ _ _ _ _ => by exact (pe_op op_sub (pe_op op_mulA (pv 4) (pe_callB (k_sum (K := K) rfl rfl) rfl T.b_sum (by decide +kernel) (pa_cons (pv 0) pa_nil))) (pe_op op_mulA (pv 2) (pv 3)))))))), run_pure (N := n_surpluses) (fun ds k d hp => ?_) h⟩)
  obtain ⟨ws, as, b, rfl, h, ha, b20, rfl, rfl⟩ := hp
  have l5 := h.l5
  have s5 := h.sum5
  have p := h.pos
  have sa := ha.sum
  have s0 := sum_nn ha.nn
  refine q_asg (d := .int as.sum) (e_sumT (d_var rfl)) ?_
  exact s_ret (d_lcI (l := ws.zip as) (en := zipI) (fun p => p.2 * ws.sum - as.sum * p.1) (i_zipTI (a_consV (d_var rfl) (a_consV (d_var rfl) a_nil))) (by simp; omega) fun x hx => ⟨_, _, g_tup rfl (g_cons g_name (g_cons g_name g_nil)), fun j hj => hj, .v, d_sub (e_mul (d_var rfl) (e_sumT (d_var rfl)) (.inr ⟨by omega, by omega⟩)) (e_mul (d_var rfl) (d_var rfl) (.inl ⟨by omega, by omega⟩))⟩) (.inl rfl) (.inl rfl)

theorem ok_deviation {P : Program} {w : World} {K : PySem.W.Frag} {mg : Str → Option Value} {base : Heap} {f : Addr} {fd : FuncData} (F : Fun K "deviation" "deviation" s_deviation f fd) (T : Txt mg) (c_check_weighted : Cal P w K mg base CX0 4 "check_weighted" p_check_weighted (sp_check_weighted K)) (c_in_lowest_terms : Cal P w K mg base CX0 1 "in_lowest_terms" p_in_lowest_terms (sp_in_lowest_terms K)) (c_surpluses : Cal P w K mg base CX0 1 "surpluses" p_surpluses (sp_surpluses K)) :
    FnOk P w K mg base CX0 5 f fd p_deviation (sp_deviation K) := by
  refine F.ok sc_deviation (fun vs H Q E h => spD_len h (by rintro ds k d ⟨ws, as, b, rfl, _⟩; rfl)) (fun cdv A outer s H vs Q E hr h => ⟨_, (pss_cons (ps_expr (pe_cal c_check_weighted (hr.mono (by decide)) rfl pass0 (pa_cons (pv 0) (pa_cons (pv 1) pa_nil))))
      (pss_cons (ps_set (i := 2) sc_deviation.nd rfl (Or.inl rfl) (pe_callB (k_sum (K := K) rfl rfl) rfl T.b_sum (by decide +kernel) (pa_cons (pe_lc rfl sc_deviation.nd (k_seq (K := K) rfl (pe_cal c_surpluses (hr.mono (by decide)) rfl pass0 (pa_cons (pv 0) (pa_cons (pv 1) pa_nil)))) (blkOk_by (own := [("surplus", 3)]) (N := n_deviation) (sc := defScope s_deviation) (by decide +kernel)) (fun _ _ _ _ _ => by exact (pg_name (i := 3) sc_deviation.nd rfl (Or.inl rfl))) (fun _ _ _ _ _ => by exact pts_nil) (fun _ _ _ _ _ => by exact (pe_callB call_abs rfl T.b_abs (by decide +kernel) (pa_cons (pv 3) pa_nil)))) pa_nil)))
      (pss_one (ps_ret (pe_cal c_in_lowest_terms (hr.mono (by decide)) rfl pass0 (pa_cons (pv 2) (pa_cons (pe_callB (k_sum (K := K) rfl rfl) rfl T.b_sum (by decide +kernel) (pa_cons (pv 0) pa_nil)) pa_nil))))))), run_pure (N := n_deviation) (fun ds k d hp => ?_) h⟩)
  obtain ⟨ws, as, b, rfl, h, ha, b20, rfl, rfl⟩ := hp
  have l5 := h.l5
  have s5 := h.sum5
  have la := ha.len
  refine q_drop (d_call (k := .v) (d := .none) (a_cons (d_var rfl) (a_cons (d_var rfl) a_nil)) ⟨ws, as, b, rfl, h, ha, b20, rfl, rfl⟩) ?_
  refine q_asg (d := .int (devI ws as)) (e_sumL (d_lcI (l := ovL ws as) (en := imI) (fun x => (x.natAbs : Int)) (i_seqLI (d_call (k := .o) (a_cons (d_var rfl) (a_cons (d_var rfl) a_nil)) ⟨ws, as, b, rfl, h, ha, b20, rfl, rfl⟩) ko_ne) (by rw [ov_len (by omega)]; omega) fun x hx => ⟨_, _, g_name, fun j hj => hj, .v, e_absI (d_var rfl)⟩)) ?_
  exact s_ret (d_call (k := .v) (a_cons (d_var rfl) (a_cons (e_sumT (d_var rfl)) a_nil)) ⟨_, _, rfl, h.pos, by omega, rfl, rfl⟩) (.inr ⟨rfl, rfl⟩) (.inl rfl)

theorem ok_is_nearest {P : Program} {w : World} {K : PySem.W.Frag} {mg : Str → Option Value} {base : Heap} {f : Addr} {fd : FuncData} (F : Fun K "is_nearest" "is_nearest" s_is_nearest f fd) (T : Txt mg) (c_check_weighted : Cal P w K mg base CX0 4 "check_weighted" p_check_weighted (sp_check_weighted K)) (c_surpluses : Cal P w K mg base CX0 1 "surpluses" p_surpluses (sp_surpluses K)) (c_rests_of : Cal P w K mg base CX0 1 "rests_of" p_rests_of (sp_rests_of K)) :
    FnOk P w K mg base CX0 5 f fd p_is_nearest (sp_is_nearest K) := by
  refine F.ok sc_is_nearest (fun vs H Q E h => spD_len h (by rintro ds k d ⟨ws, as, b, rfl, _⟩; rfl)) (fun cdv A outer s H vs Q E hr h => ⟨_, (pss_cons (ps_expr (pe_cal c_check_weighted (hr.mono (by decide)) rfl pass0 (pa_cons (pv 0) (pa_cons (pv 1) pa_nil))))
      (pss_cons (ps_set (i := 2) sc_is_nearest.nd rfl (Or.inl rfl) (pe_cal c_surpluses (hr.mono (by decide)) rfl pass0 (pa_cons (pv 0) (pa_cons (pv 1) pa_nil))))
      (pss_cons (ps_if (pt_cmpR op_ge (pe_callB (k_max (K := K) rfl rfl) rfl T.b_max (by decide +kernel) (pa_cons (pe_lc rfl sc_is_nearest.nd (k_seq (K := K) rfl (pv 2)) (blkOk_by (own := [("surplus", 3)]) (N := n_is_nearest) (sc := defScope s_is_nearest) (by decide +kernel)) (fun _ _ _ _ _ => by exact (pg_name (i := 3) sc_is_nearest.nd rfl (Or.inl rfl))) (fun _ _ _ _ _ => by exact pts_nil) (fun _ _ _ _ _ => by exact (pe_callB call_abs rfl T.b_abs (by decide +kernel) (pa_cons (pv 3) pa_nil)))) pa_nil)) (pe_callB (k_sum (K := K) rfl rfl) rfl T.b_sum (by decide +kernel) (pa_cons (pv 0) pa_nil)) (nomark _)) (pss_one (ps_ret pe_bl)) pss_nil)
      (pss_cons (ps_set (i := 4) sc_is_nearest.nd rfl (Or.inl rfl) (pe_cal c_rests_of (hr.mono (by decide)) rfl pass0 (pa_cons (pv 0) (pa_cons (pe_callB (k_sum (K := K) rfl rfl) rfl T.b_sum (by decide +kernel) (pa_cons (pv 1) pa_nil)) pa_nil))))
      (pss_cons (ps_setLc (i := 5) rfl sc_is_nearest.nd rfl rfl (sw_true rfl rfl rfl (by decide +kernel)) (k_zip (K := K) rfl rfl T.b_zip (pa_cons (pv 4) (pa_cons (pv 2) pa_nil))) (blkOk_by (own := [("rest", 6), ("surplus", 3)]) (N := n_is_nearest) (sc := defScope s_is_nearest) (by decide +kernel)) (fun _ _ _ _ _ => by exact (k_tup (K := K) (n := 2) rfl rfl (pgs_cons (pg_name (i := 6) sc_is_nearest.nd rfl (Or.inl rfl)) (pgs_cons (pg_name (i := 3) sc_is_nearest.nd rfl (Or.inl rfl)) pgs_nil)))) (fun _ _ _ _ _ => by exact (pts_one (pt_cmpR op_gt (pv 3) pe_int (nomark _)))) (fun _ _ _ _ _ => by exact (pv 6)))
      (pss_cons (ps_setLc (i := 7) rfl sc_is_nearest.nd rfl rfl (sw_true rfl rfl rfl (by decide +kernel)) (k_zip (K := K) rfl rfl T.b_zip (pa_cons (pv 4) (pa_cons (pv 2) pa_nil))) (blkOk_by (own := [("rest", 6), ("surplus", 3)]) (N := n_is_nearest) (sc := defScope s_is_nearest) (by decide +kernel)) (fun _ _ _ _ _ => by exact (k_tup (K := K) (n := 2) rfl rfl (pgs_cons (pg_name (i := 6) sc_is_nearest.nd rfl (Or.inl rfl)) (pgs_cons (pg_name (i := 3) sc_is_nearest.nd rfl (Or.inl rfl)) pgs_nil)))) (fun _ _ _ _ _ => by exact (pts_one (pt_cmpR op_lt (pv 3) pe_int (nomark _)))) (fun _ _ _ _ _ => by exact (pv 6)))
      (pss_one (ps_ret (pe_or (k_notT (K := K) rfl (pv 5)) (pe_one (pe_cmpR op_ge (pe_callB (k_min (K := K) rfl rfl) rfl T.b_min (by decide +kernel) (pa_cons (pv 5) pa_nil)) (pe_callB (k_max (K := K) rfl rfl) rfl T.b_max (by decide +kernel) (pa_cons (pv 7) pa_nil)) (nomark _)))))))))))), run_pure (N := n_is_nearest) (fun ds k d hp => ?_) h⟩)
  obtain ⟨ws, as, b, rfl, h, ha, b20, rfl, rfl⟩ := hp
  have l1 := h.l1
  have l5 := h.l5
  have s5 := h.sum5
  have la := ha.len
  have hl : as.length = ws.length := by omega
  have ol := ov_len hl
  have sa := ha.sum
  have s0 := sum_nn ha.nn
  refine q_drop (d_call (k := .v) (d := .none) (a_cons (d_var rfl) (a_cons (d_var rfl) a_nil)) ⟨ws, as, b, rfl, h, ha, b20, rfl, rfl⟩) ?_
  refine q_asgO (d := .list ((ovL ws as).map .int)) (d_call (k := .o) (a_cons (d_var rfl) (a_cons (d_var rfl) a_nil)) ⟨ws, as, b, rfl, h, ha, b20, rfl, rfl⟩) ?_
  refine s_freeze (n := 2) rfl ?_
  refine q_if (a := decide (ws.sum ≤ mxL ((ovL ws as).map fun x => (x.natAbs : Int)))) (t_test (d_ge (e_maxL (d_lcI (l := ovL ws as) (en := imI) (fun x => (x.natAbs : Int)) (i_seqLI (d_var rfl) kv_ne) (by omega) fun x hx => ⟨_, _, g_name, fun j hj => hj, .v, e_absI (d_var rfl)⟩) (by rw [List.length_map]; omega)) (e_sumT (d_var rfl)))) (fun w => ?_) fun w => ?_
  · have w := of_decide_eq_true w
    refine q_ret (d_bl.to ?_) (.inr ⟨rfl, rfl⟩) (.inl rfl)
    unfold nearB
    rw [decide_eq_false (by omega)]
    rfl
  have w := of_decide_eq_false w
  refine q_next ?_
  refine q_asgO (d := .list ((rstL ws as.sum).map .int)) (d_call (k := .o) (a_cons (d_var rfl) (a_cons (e_sumT (d_var rfl)) a_nil)) ⟨ws, as.sum, rfl, h, s0, by omega, rfl, rfl⟩) ?_
  refine s_freeze (n := 4) rfl ?_
  have zl : ((rstL ws as.sum).zip (ovL ws as)).length ≤ 5 := by rw [List.length_zip, rst_len, ol]; omega
  refine q_asgO (d := .list ((uprL ws as).map .int)) (Ev.to (d_lc (l := (rstL ws as.sum).zip (ovL ws as)) (en := zipI) (fun p => decide (0 < p.2)) (fun p => .int p.1) (i_zipLVI (d_var rfl) kv_ne (d_var rfl) kv_ne) (by omega) fun x hx => ⟨_, _, g_tup rfl (g_cons g_name (g_cons g_name g_nil)), fun j hj => hj, t_test (d_gt (d_var rfl) d_int), fun _ => (d_var rfl).fo rfl⟩) (by unfold uprL; rw [List.map_map]; rfl)) ?_
  refine q_asgO (d := .list ((dwnL ws as).map .int)) (Ev.to (d_lc (l := (rstL ws as.sum).zip (ovL ws as)) (en := zipI) (fun p => decide (p.2 < 0)) (fun p => .int p.1) (i_zipLVI (d_var rfl) kv_ne (d_var rfl) kv_ne) (by omega) fun x hx => ⟨_, _, g_tup rfl (g_cons g_name (g_cons g_name g_nil)), fun j hj => hj, t_test (d_lt (d_var rfl) d_int), fun _ => (d_var rfl).fo rfl⟩) (by unfold dwnL; rw [List.map_map]; rfl)) ?_
  refine s_ret ((d_orV (e_notL (d_varO rfl)) (b := decide (mxL (dwnL ws as) ≤ mnL (uprL ws as))) fun e => ?_).to ?_) (.inr ⟨rfl, rfl⟩) (.inl rfl)
  · have ne : uprL ws as ≠ [] := fun z => by rw [z] at e; cases e
    exact d_ge (e_minL (d_varO rfl) (List.length_pos_iff.mpr ne)) (e_maxL (d_varO rfl) (dwn_some h hl ne))
  · unfold nearB
    rw [decide_eq_true (show mxL ((ovL ws as).map fun x => (x.natAbs : Int)) < ws.sum by omega), Bool.true_and]
    congr 2
    cases uprL ws as <;> rfl

theorem ok__law_stream {P : Program} {w : World} {K : PySem.W.Frag} {mg : Str → Option Value} {base : Heap} {f : Addr} {fd : FuncData} (F : Fun K "_law_stream" "_law_stream" s__law_stream f fd) (T : Txt mg) :
    FnOk P w K mg base CX0 1 f fd p__law_stream (sp__law_stream K) := by
  refine F.ok sc__law_stream (fun vs H Q E h => by obtain ⟨a, ns, rfl, _⟩ := h; rfl) (fun cdv A outer s H vs Q E hr h => ⟨_, (pss_one (ps_ret (pe_lst (pa_cons (pe_callTy (k_list (K := K) rfl) rfl T.b_list (by decide +kernel) (pa_cons (pv 0) pa_nil)) (pa_cons pe_int (pa_cons pe_int pa_nil)))))), ?_⟩)
  obtain ⟨a, ns, rfl, hS, hl, k⟩ := h
  refine ⟨_, rfl, a, _, rfl, .inl hS, fun l hl => ⟨(by show 3 ≤ sizeLine; decide), fun st hst => ?_⟩⟩
  have nls : l ≠ st := fun z => by rw [z, upd_same] at hst; cases hst
  have hs0 : H st = none := by rw [← upd_ne (H := H) (o := .lst (ns.map V.int)) nls.symm]; exact hst
  refine k st l _ (fun b o z => ?_) hs0 ⟨ns, 0, 0, upd_same, by rw [upd_ne nls, upd_same], nls, by decide⟩
  rw [upd_ne (ne_of_none z hs0), upd_ne (ne_of_none z hl)]
  exact z

theorem ok__law_next {P : Program} {w : World} {K : PySem.W.Frag} {mg : Str → Option Value} {base : Heap} {f : Addr} {fd : FuncData} (F : Fun K "_law_next" "_law_next" s__law_next f fd) (T : Txt mg) :
    FnOk P w K mg base CX0 1 f fd p__law_next (sp__law_next K) := by
  refine F.ok sc__law_next (fun vs H Q E h => spS_len h (by rintro ds k P ⟨m, rfl, _⟩; rfl)) (fun cdv A outer s H vs Q E hr h => ⟨_, (Evl.pss_cut (ps_if (pt_cmpR (k_eq (K := K) rfl (rUnits hr)) (pe_ix (k_ix (K := K) rfl) (pv 0) pe_int (fun _ _ => rfl)) pe_int (nomark _)) (pss_cons (ps_set (i := 2) sc__law_next.nd rfl (Or.inl rfl) (pe_ix (k_ix (K := K) rfl) (pv 0) pe_int (fun _ _ => rfl)))
      (pss_cons (ps_set (i := 3) sc__law_next.nd rfl (Or.inl rfl) (pe_op (k_add (K := K) rfl) pe_int (pv 2)))
      (Evl.pss_cut (ps_if (pt_cmpR op_lt (pv 2) (pe_callB (k_len (K := K) rfl) rfl T.b_len (by decide +kernel) (pa_cons (pe_ix (k_ix (K := K) rfl) (pv 0) pe_int (fun _ _ => rfl)) pa_nil)) (nomark _)) (pss_one (ps_set (i := 3) sc__law_next.nd rfl (Or.inl rfl) (pe_callB call_abs rfl T.b_abs (by decide +kernel) (pa_cons (pe_ix (k_ix (K := K) rfl) (pe_ix (k_ix (K := K) rfl) (pv 0) pe_int (fun _ _ => rfl)) (pv 2) (fun _ _ => rfl)) pa_nil)))) pss_nil)
      (Evl.pss_cut (ps_if (pt_cmpR op_lt (pv 3) (pe_op op_pow pe_int pe_int) (nomark _)) (pss_cons (ps_set (i := 3) sc__law_next.nd rfl (Or.inl rfl) (pe_op op_mod (pe_callTy call_int1 rfl T.b_int (by decide +kernel) (pa_cons (pe_op (k_add (K := K) rfl) (pe_op (k_add (K := K) rfl) (pe_op op_mulA (pv 3) pe_int) (pe_op op_mulA (pv 2) pe_int)) pe_int) pa_nil)) pe_int))
      (pss_one (ps_set (i := 3) sc__law_next.nd rfl (Or.inl rfl) (pe_op (k_add (K := K) rfl) (pe_op op_mulA (pe_op op_mod (pe_callTy call_int1 rfl T.b_int (by decide +kernel) (pa_cons (pe_op (k_add (K := K) rfl) (pe_op op_mulA (pv 3) pe_int) pe_int) pa_nil)) pe_int) pe_int) (pv 3))))) pss_nil)
      (pss_cons (ps_asg (pv 3) (pg_sub (pv 0) pe_int set_list))
      (pss_one (ps_asg (pe_op (k_add (K := K) rfl) (pv 2) pe_int) (pg_sub (pv 0) pe_int set_list)))))))) pss_nil)
      (pss_cons (ps_set (i := 4) sc__law_next.nd rfl (Or.inl rfl) (pe_op op_mod (pe_callTy call_int1 rfl T.b_int (by decide +kernel) (pa_cons (pe_ix (k_ix (K := K) rfl) (pv 0) pe_int (fun _ _ => rfl)) pa_nil)) (pv 1)))
      (pss_cons (ps_asg (pe_op op_fdiv (pe_ix (k_ix (K := K) rfl) (pv 0) pe_int (fun _ _ => rfl)) (pv 1)) (pg_sub (pv 0) pe_int set_list))
      (pss_one (ps_ret (pv 4)))))), ?_⟩)
  obtain ⟨st, l, vs', ds, kd, P', rfl, hst, hb, ⟨m, rfl, hm, hm2, rfl, rfl⟩, hq⟩ := h
  obtain ⟨mv, rfl, bm⟩ := hb.one
  have em := bm.int'
  subst em
  obtain ⟨ns, x, k, h1, h2, h3, h4⟩ := hst
  -- behind the first if the stream's cell is any int
  refine ⟨fun σ H1 => ∃ (a b c : Option V) (x k : Int), σ = [some (.ref st), some (.int m), a, b, c] ∧ H1 st = some (.lst [.ref l, .int x, .int k]) ∧ H1 l = some (.lst (ns.map V.int)) ∧ 0 ≤ k ∧ ∀ a o, a ≠ st → H a = some o → H1 a = some o, ?_, ?_⟩
  · refine ⟨_, rfl, .inl ⟨st, _, 1, .int x, rfl, rfl, .inl (.inl h1), rfl, .inl ⟨rfl, _, rfl, ?_⟩⟩⟩
    refine ite2 (fun _ => ?_) (fun _ => ⟨_, _, _, x, k, rfl, h1, h2, h4, fun _ _ _ z => z⟩)
    refine ⟨_, rfl, .inl ⟨st, _, 2, .int k, rfl, rfl, .inl (.inl h1), rfl, ?_⟩⟩
    refine ⟨_, rfl, .inl ⟨7, k, rfl, rfl, ?_⟩⟩
    refine ⟨fun σ H1 => H1 = H ∧ ∃ z : Int, σ = [some (.ref st), some (.int m), some (.int k), some (.int z), none], ?_, ?_⟩
    · refine ⟨_, rfl, _, rfl, .inl ⟨st, _, 0, .ref l, rfl, rfl, .inl (.inl h1), rfl, ⟨l, _, rfl, .inl (.inl (.inl h2)), k, _, rfl, rfl, _, rfl, ?_⟩⟩⟩
      refine ite2 (fun hk => ?_) (fun _ => ⟨rfl, _, rfl⟩)
      have hk' : k < (ns.length : Int) := by simpa using of_decide_eq_true hk
      obtain ⟨j, rfl⟩ := Int.eq_ofNat_of_zero_le h4
      have hj : j < ns.length := by omega
      have hat : atI (ns.map V.int) (j : Int) = some (.int ns[j]) := atI_nat (by simp [hj])
      exact ⟨_, rfl, .inl ⟨st, _, 0, .ref l, rfl, rfl, .inl (.inl h1), rfl, _, rfl, .inl ⟨l, _, (j : Int), _, rfl, rfl, .inl (.inl h2), hat, _, rfl, rfl, _, rfl⟩⟩⟩
    · rintro σ H1 ⟨rfl, z, rfl⟩
      refine ⟨fun σ H1' => H1' = H1 ∧ ∃ z : Int, σ = [some (.ref st), some (.int m), some (.int k), some (.int z), none], ?_, ?_⟩
      · refine ⟨_, rfl, 10, 18, rfl, rfl, ⟨by decide, by decide, by decide⟩, z, _, rfl, rfl, _, rfl, ?_⟩
        refine ite2 (fun _ => ?_) (fun _ => ⟨rfl, _, rfl⟩)
        refine ⟨_, rfl, .inl ⟨z, 48271, rfl, rfl, .inr ⟨by decide, by decide⟩, _, rfl, .inl ⟨k, 69621, rfl, rfl, .inr ⟨by decide, by decide⟩, .inl ⟨_, _, rfl, rfl, .inl ⟨_, _, rfl, rfl, .inl ⟨_, rfl, _, _, rfl, rfl, (by show (0 : Int) < 2147483647; decide), ?_⟩⟩⟩⟩⟩⟩
        refine ⟨_, rfl, .inl ⟨_, 16807, rfl, rfl, .inr ⟨by decide, by decide⟩, .inl ⟨_, _, rfl, rfl, .inl ⟨_, rfl, _, _, rfl, rfl, (by show (0 : Int) < 2147483647; decide), .inl ⟨_, 65537, rfl, rfl, .inr ⟨by decide, by decide⟩, _, rfl, .inl ⟨_, _, rfl, rfl, rfl, _, rfl⟩⟩⟩⟩⟩⟩
      · rintro σ H1' ⟨rfl, z, rfl⟩
        refine ⟨_, rfl, _, rfl, st, _, 1, 1, rfl, rfl, h1, rfl, ?_⟩
        refine ⟨_, rfl, .inl ⟨k, 1, rfl, rfl, _, rfl, st, _, 2, 2, rfl, rfl, upd_same, rfl, ?_⟩⟩
        refine ⟨_, _, _, z, k + 1, rfl, upd_same, by rw [upd_ne h3, upd_ne h3]; exact h2, by omega, fun a o na ha => by rw [upd_ne na, upd_ne na]; exact ha⟩
  · rintro σ H1 ⟨a, b, c, x, k, rfl, g1, g2, g4, g5⟩
    refine ⟨_, rfl, .inl ⟨st, _, 1, .int x, rfl, rfl, .inl (.inl g1), rfl, .inl ⟨x, rfl, _, rfl, x, m, rfl, rfl, hm, ?_⟩⟩⟩
    refine ⟨_, rfl, .inl ⟨st, _, 1, .int x, rfl, rfl, .inl (.inl g1), rfl, _, rfl, x, m, rfl, rfl, ⟨hm, hm2⟩, _, rfl, st, _, 1, 1, rfl, rfl, g1, rfl, ?_⟩⟩
    refine ⟨_, rfl, hq _ (.int (x % m)) _ ⟨x % m, rfl, Int.emod_nonneg _ (by omega), Int.emod_lt_of_pos _ hm⟩ ⟨fun a o na ha => ?_, fun _ st' l' e => ?_⟩ ⟨rfl, .int _⟩⟩
    · have : a ≠ st := na st l rfl
      rw [upd_ne this]
      exact g5 a o this ha
    · cases e
      exact Str1.put g2 h3 g4

theorem ok__law_is_integer {P : Program} {w : World} {K : PySem.W.Frag} {mg : Str → Option Value} {base : Heap} {f : Addr} {fd : FuncData} (F : Fun K "_law_is_integer" "_law_is_integer" s__law_is_integer f fd) (T : Txt mg) :
    FnOk P w K mg base CX0 1 f fd p__law_is_integer (sp__law_is_integer K) := by
  refine F.ok sc__law_is_integer (fun vs H Q E h => spD_len h (by rintro ds k d ⟨x, rfl, _⟩; rfl)) (fun cdv A outer s H vs Q E hr h => ⟨_, (pss_one (ps_ret (pe_and (pe_callB (k_isi (K := K) rfl) rfl T.b_isinstance (by decide +kernel) (pa_cons (pv 0) (pa_cons (pe_ty (n := "int") rfl T.b_int (by decide +kernel)) pa_nil))) (pe_one (pe_not (pe_callB (k_isi (K := K) rfl) rfl T.b_isinstance (by decide +kernel) (pa_cons (pv 0) (pa_cons (pe_ty (n := "bool") rfl T.b_bool (by decide +kernel)) pa_nil)))))))), run_pure (N := n__law_is_integer) (fun ds k d hp => ?_) h⟩)
  obtain ⟨x, rfl, rfl, rfl⟩ := hp
  refine s_ret ((d_andV (e_isi (d_var rfl) (kit_int x)) fun _ => d_notV (e_isi (d_var rfl) (kit_bool x))).to ?_) (.inr ⟨rfl, rfl⟩) (.inl rfl)
  cases x <;> rfl

theorem ok__law_gcd {P : Program} {w : World} {K : PySem.W.Frag} {mg : Str → Option Value} {base : Heap} {f : Addr} {fd : FuncData} (F : Fun K "_law_gcd" "_law_gcd" s__law_gcd f fd) (T : Txt mg) :
    FnOk P w K mg base CX0 1 f fd p__law_gcd (sp__law_gcd K) := by
  refine F.ok sc__law_gcd (fun vs H Q E h => spD_len h (by rintro ds k d ⟨a, b, rfl, _⟩; rfl)) (fun cdv A outer s H vs Q E hr h => ⟨_, (pss_cons (ps_set (i := 0) sc__law_gcd.nd rfl (Or.inl rfl) (pe_callB call_abs rfl T.b_abs (by decide +kernel) (pa_cons (pv 0) pa_nil)))
      (pss_cons (ps_set (i := 1) sc__law_gcd.nd rfl (Or.inl rfl) (pe_callB call_abs rfl T.b_abs (by decide +kernel) (pa_cons (pv 1) pa_nil)))
      (pss_cons (ps_for PassesOwn.never rfl (pi_range1 rfl T.b_range (pa_cons pe_int pa_nil)) (pg_name (i := 2) sc__law_gcd.nd rfl (Or.inl rfl)) (pss_cons (ps_if (pt_cmpR (k_eq (K := K) rfl (rUnits hr)) (pv 1) pe_int (nomark _)) (pss_one ps_break) pss_nil)
      (pss_one (ps_par rfl sc__law_gcd.nd (i := 0) (j := 1) rfl rfl (by decide) rfl rfl (pa_cons (pv 1) (pa_cons (pe_op op_mod (pe_callTy call_int1 rfl T.b_int (by decide +kernel) (pa_cons (pv 0) pa_nil)) (pv 1)) pa_nil)) rfl))))
      (pss_one (ps_ret (pv 0)))))), run_pure (N := n__law_gcd) (fun ds k d hp => ?_) h⟩)
  obtain ⟨a, b, rfl, a0, b0, b1, rfl, rfl⟩ := hp
  obtain ⟨a, rfl⟩ := Int.eq_ofNat_of_zero_le a0
  obtain ⟨b, rfl⟩ := Int.eq_ofNat_of_zero_le (show 0 ≤ b by omega)
  have b30 : b < 2 ^ 30 := by have : (2 : Nat) ^ 30 = 1073741824 := by decide
                              omega
  have fin : ∀ {n x y : Nat}, Euc a b n x y → y = 0 → PyData.int (x : Int) = .int (gcI (a : Int) (b : Int)) := fun {n x y} h hy => by
    have g := h.g
    rw [hy, Nat.gcd_zero_right] at g
    rw [g]; rfl
  refine q_asg (d := .int (a : Int)) (Ev.to (e_absI (d_var rfl)) (by simp)) ?_
  refine q_asg (d := .int (b : Int)) (Ev.to (e_absI (d_var rfl)) (by simp)) ?_
  refine q_for (i_rngN (n := 40000) (a_cons d_int a_nil) (by decide)) (fun n Γ1 => ∃ (x y : Nat) (t2 : Option Rs), Γ1 = [some (.v (.int (x : Int))), some (.v (.int (y : Int))), t2] ∧ Euc a b n x y) ⟨a, b, _, rfl, rfl, .inl ⟨rfl, rfl, rfl⟩⟩ (fun n a' Γ1 hn' hI => ?_) (fun Γ1 hI => ?_)
  · obtain ⟨x, y, t2, rfl, hE⟩ := hI
    obtain ⟨hn, rfl⟩ := rngN_at hn'
    refine ⟨_, _, g_name, ?_⟩
    by_cases hy : y = 0
    · subst hy
      refine q_if (a := true) (EvT.to (t_test (e_eqI (d_var rfl) d_int)) rfl) (fun _ => s_brk (.inr (.inl ⟨_, rfl, ?_⟩))) fun e => nomatch e
      exact s_ret (Ev.to (d_var rfl) (fin hE rfl)) (.inr ⟨rfl, rfl⟩) (.inl rfl)
    · refine q_no (EvT.to (t_test (e_eqI (d_var rfl) d_int)) (decide_eq_false (by omega))) ?_
      exact s_parD (d_var rfl) (Ev.to (d_mod (e_int1 (d_var rfl)) (d_var rfl) (by omega)) (y := .int ((x % y : Nat) : Int)) (by rw [Int.natCast_emod])) (.inl ⟨_, .inl rfl, y, x % y, _, rfl, hE.go b30 (by omega)⟩)
  · obtain ⟨x, y, t2, rfl, hE⟩ := hI
    have e : ((List.range 40000).map fun i => Im.d (.int (i : Nat))).length = 40000 := by rw [List.length_map, List.length_range]
    have hy := hE.fin (by rw [e]; decide)
    exact s_ret (Ev.to (d_var rfl) (fin hE hy)) (.inr ⟨rfl, rfl⟩) (.inl rfl)

theorem ok__law_low {P : Program} {w : World} {K : PySem.W.Frag} {mg : Str → Option Value} {base : Heap} {f : Addr} {fd : FuncData} (F : Fun K "_law_low" "_law_low" s__law_low f fd) (T : Txt mg) (c__law_gcd : Cal P w K mg base CX0 1 "_law_gcd" p__law_gcd (sp__law_gcd K)) :
    FnOk P w K mg base CX0 2 f fd p__law_low (sp__law_low K) := by
  refine F.ok sc__law_low (fun vs H Q E h => spD_len h (by rintro ds k d ⟨n, m, rfl, _⟩; rfl)) (fun cdv A outer s H vs Q E hr h => ⟨_, (pss_cons (ps_set (i := 2) sc__law_low.nd rfl (Or.inl rfl) (pe_cal c__law_gcd (hr.mono (by decide)) rfl pass0 (pa_cons (pv 0) (pa_cons (pv 1) pa_nil))))
      (pss_cons (ps_if (pt_cmpR op_lt (pv 1) pe_int (nomark _)) (pss_one (ps_set (i := 2) sc__law_low.nd rfl (Or.inl rfl) (pe_op op_sub pe_int (pv 2)))) pss_nil)
      (pss_one (ps_ret (pe_tupN (pa_cons (pe_op op_fdiv (pv 0) (pv 2)) (pa_cons (pe_op op_fdiv (pv 1) (pv 2)) pa_nil))))))), run_pure (N := n__law_low) (fun ds k d hp => ?_) h⟩)
  obtain ⟨n, m, rfl, n0, h0, h1, rfl, rfl⟩ := hp
  have g0 := gc_pos (n := n) h0
  have g1 := gc_le (n := n) h0
  refine q_asg (d := .int (gcI n m)) (d_call (k := .v) (a_cons (d_var rfl) (a_cons (d_var rfl) a_nil)) ⟨n, m, rfl, n0, h0, h1, rfl, rfl⟩) ?_
  refine q_no (EvT.to (t_test (d_lt (d_var rfl) d_int)) (decide_eq_false (by omega))) ?_
  exact s_ret (d_tup (a_consV (d_fdiv (d_var rfl) (d_var rfl) ⟨g0, by omega⟩) (a_consV (d_fdiv (d_var rfl) (d_var rfl) ⟨g0, by omega⟩) a_nil)) (by simp)) (.inr ⟨rfl, rfl⟩) (.inl rfl)

theorem ok_eq {P : Program} {w : World} {K : PySem.W.Frag} {mg : Str → Option Value} {base : Heap} {f : Addr} {fd : FuncData} (F : Fun K "_law_equal" "_law_equal" s__law_equal f fd) (T : Txt mg) (c_int : Cal P w K mg base CX0 1 "_law_is_integer" p__law_is_integer (sp__law_is_integer K)) (n : Nat)
    (c_eq : Cal P w K mg base CX0 (n + 1) "_law_equal" p__law_equal (spEq K n)) : FnOk P w K mg base CX0 (n + 2) f fd p__law_equal (spEq K (n + 1)) := by
  refine F.ok sc__law_equal (fun vs H Q E h => spD_len (E := E) h (by rintro ds k d ⟨x, rfl, _⟩; rfl)) (fun cdv A outer s H vs Q E hr h => ⟨_, (pss_cons (ps_if (pt_cmpR op_isN (pv 1) pe_non (nomark _)) (pss_one (ps_ret (pe_cmpR op_isN (pv 0) pe_non (nomark _)))) pss_nil)
      (pss_cons (ps_if (pt_val (pe_callB (k_isi (K := K) rfl) rfl T.b_isinstance (by decide +kernel) (pa_cons (pv 1) (pa_cons (pe_ty (n := "bool") rfl T.b_bool (by decide +kernel)) pa_nil)))) (pss_one (ps_ret (pe_and (pe_callB (k_isi (K := K) rfl) rfl T.b_isinstance (by decide +kernel) (pa_cons (pv 0) (pa_cons (pe_ty (n := "bool") rfl T.b_bool (by decide +kernel)) pa_nil))) (pe_one (pe_cmpR (k_eq (K := K) rfl (rUnits hr)) (pv 0) (pv 1) (nomark _)))))) pss_nil)
      (pss_cons (ps_if (pt_val (pe_callB (k_isi (K := K) rfl) rfl T.b_isinstance (by decide +kernel) (pa_cons (pv 1) (pa_cons (pe_ty (n := "int") rfl T.b_int (by decide +kernel)) pa_nil)))) (pss_one (ps_ret (pe_and (pe_cal c_int (hr.mono (by omega)) rfl pass0 (pa_cons (pv 0) pa_nil)) (pe_one (pe_cmpR (k_eq (K := K) rfl (rUnits hr)) (pv 0) (pv 1) (nomark _)))))) pss_nil)
      (pss_cons (ps_if (pt_val (pe_callB (k_isi (K := K) rfl) rfl T.b_isinstance (by decide +kernel) (pa_cons (pv 1) (pa_cons (pe_ty (n := "str") rfl T.b_str (by decide +kernel)) pa_nil)))) (pss_one (ps_ret (pe_and (pe_callB (k_isi (K := K) rfl) rfl T.b_isinstance (by decide +kernel) (pa_cons (pv 0) (pa_cons (pe_ty (n := "str") rfl T.b_str (by decide +kernel)) pa_nil))) (pe_one (pe_cmpR (k_eq (K := K) rfl (rUnits hr)) (pv 0) (pv 1) (nomark _)))))) pss_nil)
      (pss_cons (ps_if (PW.pt (pw_and (pt_val (pe_callB (k_isi (K := K) rfl) rfl T.b_isinstance (by decide +kernel) (pa_cons (pv 1) (pa_cons (pe_ty (n := "tuple") rfl T.b_tuple (by decide +kernel)) pa_nil)))) (pw_and1 (pt_not (pt_val (pe_callB (k_isi (K := K) rfl) rfl T.b_isinstance (by decide +kernel) (pa_cons (pv 0) (pa_cons (pe_ty (n := "tuple") rfl T.b_tuple (by decide +kernel)) pa_nil)))))))) (pss_one (ps_ret pe_bl)) pss_nil)
      (pss_cons (ps_if (PW.pt (pw_and (pt_val (pe_callB (k_isi (K := K) rfl) rfl T.b_isinstance (by decide +kernel) (pa_cons (pv 1) (pa_cons (pe_ty (n := "list") rfl T.b_list (by decide +kernel)) pa_nil)))) (pw_and1 (pt_not (pt_val (pe_callB (k_isi (K := K) rfl) rfl T.b_isinstance (by decide +kernel) (pa_cons (pv 0) (pa_cons (pe_ty (n := "list") rfl T.b_list (by decide +kernel)) pa_nil)))))))) (pss_one (ps_ret pe_bl)) pss_nil)
      (pss_cons (ps_if (pt_cmpR (k_ne (K := K) rfl (rUnits hr)) (pe_callB (k_len (K := K) rfl) rfl T.b_len (by decide +kernel) (pa_cons (pv 0) pa_nil)) (pe_callB (k_len (K := K) rfl) rfl T.b_len (by decide +kernel) (pa_cons (pv 1) pa_nil)) (nomark _)) (pss_one (ps_ret pe_bl)) pss_nil)
      (pss_one (ps_ret (pe_callB (k_all (K := K) rfl rfl) rfl T.b_all (by decide +kernel) (pa_cons (pe_lc rfl sc__law_equal.nd (pi_range1 rfl T.b_range (pa_cons (pe_callB (k_len (K := K) rfl) rfl T.b_len (by decide +kernel) (pa_cons (pv 1) pa_nil)) pa_nil)) (blkOk_by (own := [("at", 2)]) (N := n__law_equal) (sc := defScope s__law_equal) (by decide +kernel)) (fun _ _ _ _ _ => by exact (pg_name (i := 2) sc__law_equal.nd rfl (Or.inl rfl))) (fun _ _ _ _ _ => by exact pts_nil) (fun _ _ _ _ _ => by exact (pe_cal c_eq hr rfl pass0 (pa_cons (pe_ix (k_ix (K := K) rfl) (pv 0) (pv 2) (fun _ _ => rfl)) (pa_cons (pe_ix (k_ix (K := K) rfl) (pv 1) (pv 2) (fun _ _ => rfl)) pa_nil))))) pa_nil))))))))))), run_pure (E := E) (N := n__law_equal) (fun ds k d hp => ?_) h⟩)
  obtain ⟨x, rfl, hx, rfl, rfl⟩ := hp
  have flatB : flatD (.bool true) = true := rfl
  have isN : ∀ (a : Bool), isNoneD x = a → EvT (pc K) (tTest (tOp (fun x y H Q => y = .non ∧ Q (.bl (decide (x = .non))) H) (tVar 1) (tC .non))) (argsG [x, x] n__law_equal.length) a := fun a h => (t_test (d_isN (d_var rfl))).to h
  cases hx with
  | non => exact q_if (isN true rfl) (fun _ => q_ret ((d_isN (d_var (d := .none) rfl)).to rfl) (.inr ⟨rfl, flatB⟩) (.inl rfl)) fun e => nomatch e
  | bl b =>
    refine q_no (isN false rfl) (q_if ((t_B (e_isi (d_var rfl) (kit_bool (.bool b)))).to (b := true) rfl) (fun _ => ?_) fun e => nomatch e)
    exact q_ret ((d_andV (b := true) (e_isi (d_var rfl) (kit_bool (.bool b))) fun _ => e_eqS (d_var rfl) (d_var rfl) rfl rfl rfl (decide_eq_true rfl)).to rfl) (.inr ⟨rfl, flatB⟩) (.inl rfl)
  | int i =>
    refine q_no (isN false rfl) (q_no ((t_B (e_isi (d_var rfl) (kit_bool (.int i)))).to rfl) (q_if ((t_B (e_isi (d_var rfl) (kit_int (.int i)))).to (b := true) rfl) (fun _ => ?_) fun e => nomatch e))
    exact q_ret ((d_andV (b := true) (d_call (a_cons (d_var rfl) a_nil) ⟨.int i, rfl, rfl, rfl⟩) fun _ => e_eqS (d_var rfl) (d_var rfl) rfl rfl rfl (decide_eq_true rfl)).to rfl) (.inr ⟨rfl, flatB⟩) (.inl rfl)
  | str z =>
    refine q_no (isN false rfl) (q_no ((t_B (e_isi (d_var rfl) (kit_bool (.str z)))).to rfl) (q_no ((t_B (e_isi (d_var rfl) (kit_int (.str z)))).to rfl) (q_if ((t_B (e_isi (d_var rfl) (kit_str (.str z)))).to (b := true) rfl) (fun _ => ?_) fun e => nomatch e)))
    exact q_ret ((d_andV (b := true) (e_isi (d_var rfl) (kit_str (.str z))) fun _ => e_eqS (d_var rfl) (d_var rfl) rfl rfl rfl (decide_eq_true rfl)).to rfl) (.inr ⟨rfl, flatB⟩) (.inl rfl)
  | @lst m xs hl hxs =>
    refine q_no (isN false rfl) (q_no ((t_B (e_isi (d_var rfl) (kit_bool (.list xs)))).to rfl) (q_no ((t_B (e_isi (d_var rfl) (kit_int (.list xs)))).to rfl) (q_no ((t_B (e_isi (d_var rfl) (kit_str (.list xs)))).to rfl) ?_)))
    refine q_no ((t_and (b := false) ((t_B (e_isi (d_var rfl) (kit_tuple (.list xs)))).to (b := false) rfl) fun e => nomatch e).to rfl) ?_
    refine q_no ((t_and (b := false) ((t_B (e_isi (d_var rfl) (kit_list (.list xs)))).to (b := true) rfl) fun _ => (t_not ((t_B (e_isi (d_var rfl) (kit_list (.list xs)))).to (b := true) rfl)).to rfl).to rfl) ?_
    refine q_no ((t_test (e_neI (d_lenL (d_var rfl)) (d_lenL (d_var rfl)))).to (by simp)) ?_
    refine s_ret ((d_all (d_lcB (fun _ => true) (i_rng1 (a_cons (d_lenL (d_var rfl)) a_nil) (by omega) (by omega)) (by simp [upI]; omega) fun i hi => ?_)).to (by simp)) (.inr ⟨rfl, flatB⟩) (.inl rfl)
    obtain ⟨j, hj, rfl⟩ := List.mem_map.mp hi
    have hj' : j < xs.length := by simpa using hj
    have hg : xs[j]? = some xs[j] := List.getElem?_eq_getElem hj'
    exact ⟨_, _, g_name, fun j hj => hj, _, d_call (a_cons (e_ixLv (d_var rfl) (d_var rfl) (atI_i hg)) (a_cons (e_ixLv (d_var rfl) (d_var rfl) (atI_i hg)) a_nil)) ⟨_, rfl, hxs _ (List.getElem_mem hj'), rfl, rfl⟩⟩
  | @tup m xs hl hxs =>
    refine q_no (isN false rfl) (q_no ((t_B (e_isi (d_var rfl) (kit_bool (.tuple xs)))).to rfl) (q_no ((t_B (e_isi (d_var rfl) (kit_int (.tuple xs)))).to rfl) (q_no ((t_B (e_isi (d_var rfl) (kit_str (.tuple xs)))).to rfl) ?_)))
    refine q_no ((t_and (b := false) ((t_B (e_isi (d_var rfl) (kit_tuple (.tuple xs)))).to (b := true) rfl) fun _ => (t_not ((t_B (e_isi (d_var rfl) (kit_tuple (.tuple xs)))).to (b := true) rfl)).to rfl).to rfl) ?_
    refine q_no ((t_and (b := false) ((t_B (e_isi (d_var rfl) (kit_list (.tuple xs)))).to (b := false) rfl) fun e => nomatch e).to rfl) ?_
    refine q_no ((t_test (e_neI (d_lenT (d_var rfl)) (d_lenT (d_var rfl)))).to (by simp)) ?_
    refine s_ret ((d_all (d_lcB (fun _ => true) (i_rng1 (a_cons (d_lenT (d_var rfl)) a_nil) (by omega) (by omega)) (by simp [upI]; omega) fun i hi => ?_)).to (by simp)) (.inr ⟨rfl, flatB⟩) (.inl rfl)
    obtain ⟨j, hj, rfl⟩ := List.mem_map.mp hi
    have hj' : j < xs.length := by simpa using hj
    have hg : xs[j]? = some xs[j] := List.getElem?_eq_getElem hj'
    exact ⟨_, _, g_name, fun j hj => hj, _, d_call (a_cons (e_ixTv (d_var rfl) (d_var rfl) (atI_i hg)) (a_cons (e_ixTv (d_var rfl) (d_var rfl) (atI_i hg)) a_nil)) ⟨_, rfl, hxs _ (List.getElem_mem hj'), rfl, rfl⟩⟩
theorem ok__law_equal {P : Program} {w : World} {K : PySem.W.Frag} {mg : Str → Option Value} {base : Heap} {f : Addr} {fd : FuncData} (F : Fun K "_law_equal" "_law_equal" s__law_equal f fd) (T : Txt mg) (c_int : Cal P w K mg base CX0 1 "_law_is_integer" p__law_is_integer (sp__law_is_integer K))
    (mgf : mg "_law_equal" = some (.ref f)) (bd : Binds K fd p__law_equal []) : FnOk P w K mg base CX0 10 f fd p__law_equal (sp__law_equal K) := by
  have all : ∀ n, FnOk P w K mg base CX0 (n + 1) f fd p__law_equal (spEq K n) := by
    intro n
    induction n with
    | zero => exact ⟨fun _ _ _ _ h => h.elim, fun _ _ _ _ _ _ _ _ _ _ _ _ _ h => h.elim⟩
    | succ n ih => exact ok_eq F T c_int n ⟨f, fd, ih, mgf, F.kp, bd⟩
  exact (all 8).mono (by decide)

theorem ok__law_pick {P : Program} {w : World} {K : PySem.W.Frag} {mg : Str → Option Value} {base : Heap} {f : Addr} {fd : FuncData} (F : Fun K "_law_pick" "_law_pick" s__law_pick f fd) (T : Txt mg) (c__law_next : Cal P w K mg base CX0 1 "_law_next" p__law_next (sp__law_next K)) :
    FnOk P w K mg base CX0 2 f fd p__law_pick (sp__law_pickI K) := by
  refine F.ok sc__law_pick (fun vs H Q E h => spS_len h (by rintro ds k P ⟨ns, Q, rfl, _⟩; rfl)) (fun cdv A outer s H vs Q E hr h => ⟨_, (pss_one (ps_ret (pe_ix (k_ix (K := K) rfl) (pv 1) (pe_cal c__law_next (hr.mono (by decide)) rfl pass0 (pa_cons (pv 0) (pa_cons (pe_callB (k_len (K := K) rfl) rfl T.b_len (by decide +kernel) (pa_cons (pv 1) pa_nil)) pa_nil))) (fun _ _ => rfl)))), run_str (N := n__law_pick) (fun st l ds k P' hp => ?_) h⟩)
  obtain ⟨ns, Q, rfl, h1, h2, hQ, rfl, rfl⟩ := hp
  refine s_retN (fun d => ∃ n : Int, d = .int n ∧ Q n) (n_ixLV (Q := fun i => 0 ≤ i ∧ i < (ns.length : Int)) (d_var rfl) (n_call (st := st) (l := l) rfl rfl (a_cons (Ev.to (d_lenL (d_var rfl)) (y := .int (ns.length : Int)) (by rw [List.length_map])) a_nil) ⟨(ns.length : Int), rfl, by omega, by omega, rfl, rfl⟩) (pickL (by rw [List.length_map]) fun d hd => ?_)) (.inr ⟨rfl, fun d hd => by obtain ⟨n, rfl, _⟩ := hd; rfl⟩) (fun d hd => ⟨d, rfl, hd⟩)
  obtain ⟨n, hn, rfl⟩ := List.mem_map.mp hd
  exact ⟨n, rfl, hQ n hn⟩

theorem ok__law_allocations {P : Program} {w : World} {K : PySem.W.Frag} {mg : Str → Option Value} {base : Heap} {f : Addr} {fd : FuncData} (F : Fun K "_law_allocations" "_law_allocations" s__law_allocations f fd) (T : Txt mg) :
    FnOk P w K mg base CX0 1 f fd p__law_allocations (sp__law_allocations04 K) := by
  refine F.ok sc__law_allocations (fun vs H Q E h => spD_len h (by rintro ds k d ⟨v, b, rfl, _⟩; rfl)) (fun cdv A outer s H vs Q E hr h => ⟨_, (pss_cons (ps_set (i := 2) sc__law_allocations.nd rfl (Or.inl rfl) (pe_lst (pa_cons (pe_tupN pa_nil) pa_nil)))
      (pss_cons (ps_for PassesOwn.never rfl (pi_range1 rfl T.b_range (pa_cons (pv 0) pa_nil)) (pg_name (i := 3) sc__law_allocations.nd rfl (Or.inl rfl)) (pss_cons (ps_set (i := 4) sc__law_allocations.nd rfl (Or.inl rfl) (pe_lst pa_nil))
      (pss_cons (ps_for PassesOwn.never rfl (k_seq (K := K) rfl (pv 2)) (pg_name (i := 5) sc__law_allocations.nd rfl (Or.inr rfl)) (pss_one (ps_expr (k_bm (K := K) rfl PySem.F.plainAttrs_list PySem.F.slot_list_extend PySem.F.type_list_extend mt_extend (pv 4) (pa_cons (pe_lc rfl sc__law_allocations.nd (pi_range1 rfl T.b_range (pa_cons (pe_op (k_add (K := K) rfl) (pe_op op_sub (pv 1) (pe_callB (k_sum (K := K) rfl rfl) rfl T.b_sum (by decide +kernel) (pa_cons (pv 5) pa_nil))) pe_int) pa_nil)) (blkOk_by (own := [("share", 6)]) (N := n__law_allocations) (sc := defScope s__law_allocations) (by decide +kernel)) (fun _ _ _ _ _ => by exact (pg_name (i := 6) sc__law_allocations.nd rfl (Or.inl rfl))) (fun _ _ _ _ _ => by exact pts_nil) (fun _ _ _ _ _ => by exact (pe_op (k_add (K := K) rfl) (pv 5) (pe_tupN (pa_cons (pv 6) pa_nil))))) pa_nil)))))
      (pss_one (ps_set (i := 2) sc__law_allocations.nd rfl (Or.inl rfl) (pv 4))))))
      (pss_one (ps_ret (pe_lc rfl sc__law_allocations.nd (k_seq (K := K) rfl (pv 2)) (blkOk_by (own := [("row", 5)]) (N := n__law_allocations) (sc := defScope s__law_allocations) (by decide +kernel)) (fun _ _ _ _ _ => by exact (pg_name (i := 5) sc__law_allocations.nd rfl (Or.inl rfl))) (fun _ _ _ _ _ => by exact (pts_one (pt_cmpR (k_eq (K := K) rfl (rUnits hr)) (pe_callB (k_sum (K := K) rfl rfl) rfl T.b_sum (by decide +kernel) (pa_cons (pv 5) pa_nil)) (pv 1) (nomark _)))) (fun _ _ _ _ _ => by exact (pv 5))))))), run_pure (N := n__law_allocations) (fun ds k d hp => ?_) h⟩)
  obtain ⟨v, b, rfl, h1, h0, hvb, rfl, rfl⟩ := hp
  have v5 : v ≤ 5 := by omega
  have b20 : b ≤ 20 := by omega
  have sml : ∀ n : Nat, n ≤ v.toNat → (alcL b n).length ≤ 16807 := fun n hn => alc_small04 (v := v.toNat) h0 (by omega) hn
  refine q_asgO (d := .list ((alcL b 0).map tupD)) (d_lst (kv := false) (a_cons (d_tup a_nil (by simp)) a_nil) rfl (by simp [alcL])) ?_
  refine q_for (i_rng1 (a_cons (d_var rfl) a_nil) (by omega) (by omega))
    (fun n Γ1 => ∃ t3 t4 t5 t6, Γ1 = [some (.v (.int v)), some (.v (.int b)), some (.o (.list ((alcL b n).map tupD))), t3, t4, t5, t6]) ⟨_, _, _, _, rfl⟩ (fun n a Γ1 hn' hI => ?_) (fun Γ1 hI => ?_)
  · obtain ⟨t3, t4, t5, t6, rfl⟩ := hI
    obtain ⟨hnb, rfl⟩ := upI_at hn'
    have small2 := sml (n + 1) (by omega)
    refine ⟨_, _, g_name, ?_⟩
    refine q_asgO (d_lst (kv := false) (ds := []) a_nil rfl (by decide)) ?_
    refine s_freeze (n := 2) rfl ?_
    refine q_for (i_seqL (d_var rfl) kv_ne)
      (fun m Γ1 => ∃ lg t5 t6, Γ1 = [some (.v (.int v)), some (.v (.int b)), some (.v (.list ((alcL b n).map tupD))), some (.v (.int (n : Int))), some (.o (.list lg)), t5, t6] ∧ lg = (((alcL b n).take m).flatMap fun r => (upI 0 (b - r.sum + 1).toNat).map fun x => r ++ [x]).map tupD) ⟨_, _, _, rfl, rfl⟩ (fun m a Γ1 hm' hI => ?_) (fun Γ1 hI => ?_)
    · obtain ⟨lg, t5, t6, rfl, hlg⟩ := hI
      have hml : m < (alcL b n).length := by have := (List.getElem?_eq_some_iff.mp hm').1; simpa using this
      have ha : a = .d (tupD (alcL b n)[m]) := by
        rw [List.map_map, List.getElem?_map, List.getElem?_eq_getElem hml] at hm'
        exact (Option.some.inj hm').symm
      subst ha
      have hr := (mem_alcL h0 n _).mp (List.getElem_mem hml)
      have tk : (alcL b n).take (m + 1) = (alcL b n).take m ++ [(alcL b n)[m]] := by rw [List.take_add_one, List.getElem?_eq_getElem hml]; rfl
      have le : (((alcL b n).take (m + 1)).flatMap fun r => (upI 0 (b - r.sum + 1).toNat).map fun x => r ++ [x]).length ≤ 16807 := by
        have e : alcL b (n + 1) = (((alcL b n).take (m + 1)).flatMap fun r => (upI 0 (b - r.sum + 1).toNat).map fun x => r ++ [x]) ++ (((alcL b n).drop (m + 1)).flatMap fun r => (upI 0 (b - r.sum + 1).toNat).map fun x => r ++ [x]) := by
          rw [← List.flatMap_append, List.take_append_drop]
          rfl
        rw [e, List.length_append] at small2
        omega
      rw [tk, List.flatMap_append, List.flatMap_singleton, List.length_append] at le
      generalize (alcL b n)[m] = r at hr tk le
      have r0 := sum_nn hr.2.1
      refine ⟨_, _, g_name, s_ext rfl (es := ((upI 0 (b - r.sum + 1).toNat).map fun x => tupD (r ++ [x]))) (d_lcA (l := upI 0 (b - r.sum + 1).toNat) (en := fun i => Im.d (.int i)) (fun x => tupD (r ++ [x])) (i_rng1 (a_cons (e_add (d_sub (d_var rfl) (e_sumT (d_var rfl))) d_int) a_nil) (by omega) (by omega)) (by simp [upI]; omega) fun x hx => ⟨_, _, g_name, fun j hj => hj, ((e_catT (d_var rfl) (d_tup (a_consV (d_var rfl) a_nil) (by simp)) (by simp; omega)).to (y := tupD (r ++ [x])) (by show PyData.tuple (r.map .int ++ [.int x]) = .tuple ((r ++ [x]).map .int); rw [List.map_append]; rfl)).fo (flatT _)⟩) ?_ ?_ (.inl ⟨_, .inl rfl, lg ++ ((upI 0 (b - r.sum + 1).toNat).map fun x => tupD (r ++ [x])), _, _, rfl, ?_⟩)⟩
      · rw [show ((upI 0 (b - r.sum + 1).toNat).map fun x => tupD (r ++ [x])) = ((upI 0 (b - r.sum + 1).toNat).map fun x => r ++ [x]).map tupD by rw [List.map_map]; rfl]
        exact fl_rows _
      · rw [hlg]
        simp [upI] at le ⊢
        omega
      · rw [tk, List.flatMap_append, List.flatMap_singleton, List.map_append, List.map_map, hlg]
        rfl
    · obtain ⟨lg, t5, t6, rfl, hlg⟩ := hI
      have hlg2 : lg = (alcL b (n + 1)).map tupD := by
        rw [hlg, List.take_of_length_le (by simp)]
        rfl
      subst hlg2
      exact s_mov (n := 4) rfl (by simp) (.inl ⟨_, .inl rfl, _, _, _, _, rfl⟩)
  · obtain ⟨t3, t4, t5, t6, rfl⟩ := hI
    have e : ((upI 0 v.toNat).map fun i => Im.d (.int i)).length = v.toNat := by simp [upI]
    rw [e]
    have sm := sml v.toNat (Nat.le_refl _)
    exact s_ret (d_lc (l := alcL b v.toNat) (en := tupI) (fun r => decide (r.sum = b)) tupD (i_rowsB (d_varO rfl)) (by omega) fun r hr => ⟨_, _, g_name, fun j hj => hj, t_test (e_eqI (e_sumT (d_var rfl)) (d_var rfl)), fun _ => (d_var rfl).fo (flatT _)⟩) (.inl rfl) (.inl rfl)

theorem ok__law_weights {P : Program} {w : World} {K : PySem.W.Frag} {mg : Str → Option Value} {base : Heap} {f : Addr} {fd : FuncData} (F : Fun K "_law_weights" "_law_weights" s__law_weights f fd) (T : Txt mg) (c__law_pick : Cal P w K mg base CX0 2 "_law_pick" p__law_pick (sp__law_pickI K)) (c__law_next : Cal P w K mg base CX0 1 "_law_next" p__law_next (sp__law_next K)) :
    FnOk P w K mg base CX0 3 f fd p__law_weights (sp__law_weights K) := by
  refine F.ok sc__law_weights (fun vs H Q E h => spS_len h (by rintro ds k P ⟨v, rfl, _⟩; rfl)) (fun cdv A outer s H vs Q E hr h => ⟨_, (pss_cons (ps_setLc (i := 2) rfl sc__law_weights.nd rfl rfl (sw_true rfl rfl rfl (by decide +kernel)) (pi_range1 rfl T.b_range (pa_cons (pv 1) pa_nil)) (blkOk_by (own := [("variant", 3)]) (N := n__law_weights) (sc := defScope s__law_weights) (by decide +kernel)) (fun _ _ _ _ _ => by exact (pg_name (i := 3) sc__law_weights.nd rfl (Or.inl rfl))) (fun _ _ _ _ _ => by exact pts_nil) (fun _ _ _ _ _ => by exact (pe_cal c__law_pick (hr.mono (by decide)) rfl pass0 (pa_cons (pv 0) (pa_cons (pe_lst (pa_cons pe_int (pa_cons pe_int (pa_cons pe_int (pa_cons pe_int (pa_cons pe_int (pa_cons pe_int (pa_cons pe_int (pa_cons pe_int (pa_cons pe_int (pa_cons (pe_cal c__law_next (hr.mono (by decide)) rfl pass0 (pa_cons (pv 0) (pa_cons pe_int pa_nil))) pa_nil))))))))))) pa_nil)))))
      (pss_one (ps_ret (pe_ifExp (pt_cmpR op_gt (pe_callB (k_sum (K := K) rfl rfl) rfl T.b_sum (by decide +kernel) (pa_cons (pv 2) pa_nil)) pe_int (nomark _)) (pe_callTy (k_tuple (K := K) rfl) rfl T.b_tuple (by decide +kernel) (pa_cons (pv 2) pa_nil)) (pe_callTy (k_tuple (K := K) rfl) rfl T.b_tuple (by decide +kernel) (pa_cons (pe_op (k_add (K := K) rfl) (pe_slice (k_slU (K := K) rfl) (pv 2) po_none (po_some (pe_un un_neg pe_int))) (pe_lst (pa_cons pe_int pa_nil))) pa_nil)))))), run_str (N := n__law_weights) (fun st l ds k P' hp => ?_) h⟩)
  obtain ⟨v, rfl, v1, v5, rfl, rfl⟩ := hp
  have drw : ∀ {Γ : List (Option Rs)} (m : Int), 0 < m → m < 1073741824 → Γ[0]? = some (some (.r (.ref st))) → EvN (sc K st l) (tCall (sp__law_next K) [] E0 (tCons (tVar 0) (tCons (tC (.int m)) tNil))) Γ .v (SomeI fun i => 0 ≤ i ∧ i < m) := fun m m0 m1 h => n_call (st := st) (l := l) rfl h (a_cons d_int a_nil) ⟨m, rfl, m0, m1, rfl, rfl⟩
  have one : ∀ {Γ : List (Option Rs)}, Γ[0]? = some (some (.r (.ref st))) → EvN (sc K st l) (tCall (sp__law_pickI K) [] E0 (tCons (tVar 0) (tCons (tLst (tCons (tC (.int 0)) (tCons (tC (.int 1)) (tCons (tC (.int 1)) (tCons (tC (.int 2)) (tCons (tC (.int 3)) (tCons (tC (.int 7)) (tCons (tC (.int 10)) (tCons (tC (.int 1000000)) (tCons (tC (.int 999999)) (tCons (tCall (sp__law_next K) [] E0 (tCons (tVar 0) (tCons (tC (.int 100)) tNil))) tNil))))))))))) tNil))) Γ .v (fun d => ∃ n : Int, d = .int n ∧ 0 ≤ n ∧ n ≤ 1000000) := fun {Γ} hs => by
    refine n_callP (k := .v) (P := fun d => ∃ n : Int, d = .int n ∧ 0 ≤ n ∧ n ≤ 1000000) (st := st) (l := l) rfl hs (ap_consN (n_lstVN (an_consD (d := .int 0) d_int (an_consD (d := .int 1) d_int (an_consD (d := .int 1) d_int (an_consD (d := .int 2) d_int (an_consD (d := .int 3) d_int (an_consD (d := .int 7) d_int (an_consD (d := .int 10) d_int (an_consD (d := .int 1000000) d_int (an_consD (d := .int 999999) d_int (an_cons (drw 100 (by decide) (by decide) hs) an_nil)))))))))) (fun ds h => ?_)) ap_nil) (fun ds hd => ?_)
    · obtain ⟨_, _, rfl, _, _, _, rfl, _, _, _, rfl, _, _, _, rfl, _, _, _, rfl, _, _, _, rfl, _, _, _, rfl, _, _, _, rfl, _, _, _, rfl, _, _, _, rfl, _, rfl⟩ := h
      simp
    · obtain ⟨_, _, rfl, ⟨_, rfl, h⟩, rfl⟩ := hd
      obtain ⟨_, _, rfl, rfl, _, _, rfl, rfl, _, _, rfl, rfl, _, _, rfl, rfl, _, _, rfl, rfl, _, _, rfl, rfl, _, _, rfl, rfl, _, _, rfl, rfl, _, _, rfl, rfl, _, _, rfl, ⟨x, rfl, x0, x1⟩, rfl⟩ := h
      refine ⟨[0, 1, 1, 2, 3, 7, 10, 1000000, 999999, x], fun n => 0 ≤ n ∧ n ≤ 1000000, rfl, by simp, by simp, fun n hn => ?_, rfl, rfl⟩
      simp only [List.mem_cons, List.not_mem_nil, or_false] at hn
      omega
  refine q_asgNO (fun d => ∃ acc, d = .list acc ∧ ∃ ns : List Int, acc = ns.map .int ∧ ns.length = v ∧ ∀ n ∈ ns, 0 ≤ n ∧ n ≤ 1000000) ((n_draws (fun n => 0 ≤ n ∧ n ≤ 1000000) (i_rngN (n := v) (a_cons (d_var rfl) a_nil) (by omega)) (by simp; omega) fun a ha => by
    obtain ⟨i0, _, rfl⟩ := List.mem_map.mp ha
    exact ⟨_, _, g_name, fun j hj => hj, .v, one rfl⟩).imp fun d hd => by simpa using hd) ?_
  rintro _ ⟨_, rfl, ns, rfl, nl, hn⟩
  by_cases hs : 0 < ns.sum
  · exact s_ret (d_if (d := tupD ns) (k := .v) (a := true) (EvT.to (t_test (d_gt (e_sumL (d_varO rfl)) d_int)) (decide_eq_true hs)) (fun _ => d_tuple (d_varO rfl) (flatAll_ints _)) fun e => nomatch e) (.inr ⟨rfl, flatT _⟩) ⟨_, rfl, ns, rfl, nl, ⟨by omega, by omega, hn, hs⟩⟩
  · have z : ns.sum = 0 := by have := sum_nn fun n w => (hn n w).1; omega
    obtain ⟨ini, y, rfl⟩ : ∃ ini y, ns = ini ++ [y] := by
      rcases List.eq_nil_or_concat ns with e | ⟨ini, y, e⟩
      · rw [e] at nl; simp at nl; omega
      · exact ⟨ini, y, by rw [e, List.concat_eq_append]⟩
    have i0 := sum_nn (ns := ini) fun n w => (hn n (by simp [w])).1
    have y0 := (hn y (by simp)).1
    rw [List.sum_append] at z
    simp at z nl
    refine s_ret (d_if (d := tupD (ini ++ [1])) (k := .v) (a := false) (EvT.to (t_test (d_gt (e_sumL (d_varO rfl)) d_int)) (decide_eq_false hs)) (fun e => nomatch e) fun _ => d_tuple (Ev.to (e_catL (ds := ini.map .int) (es := [.int 1]) (Ev.to (e_slL (ds := (ini ++ [y]).map .int) (d_varO rfl) o_none (o_some (e_neg d_int)) (flatAll_ints _)) (by rw [show (-(1 : Int)) = -1 from rfl, cutD_last, List.map_append]; simp)) (flatAll_ints _) (d_lst (kv := false) (a_cons d_int a_nil) rfl (by simp)) rfl (by simp; omega)) (by rw [show [PyData.int 1] = [(1 : Int)].map PyData.int from rfl, ← List.map_append])) (flatAll_ints _)) (.inr ⟨rfl, flatT _⟩) ⟨_, rfl, ini ++ [1], rfl, by simp; omega, ⟨by simp, by simp; omega, fun n w => ?_, by rw [List.sum_append]; simp; omega⟩⟩
    rcases List.mem_append.mp w with w | w
    · exact hn n (by simp [w])
    · rw [List.mem_singleton.mp w]; decide

theorem ok__law_deviation {P : Program} {w : World} {K : PySem.W.Frag} {mg : Str → Option Value} {base : Heap} {f : Addr} {fd : FuncData} (F : Fun K "_law_deviation" "_law_deviation" s__law_deviation f fd) (T : Txt mg) (c__law_low : Cal P w K mg base CX0 2 "_law_low" p__law_low (sp__law_low K)) :
    FnOk P w K mg base CX0 3 f fd p__law_deviation (sp__law_deviation K) := by
  refine F.ok sc__law_deviation (fun vs H Q E h => spD_len h (by rintro ds k d ⟨ws, as, b, rfl, _⟩; rfl)) (fun cdv A outer s H vs Q E hr h => ⟨_, (pss_cons (ps_set (i := 2) sc__law_deviation.nd rfl (Or.inr rfl) (pe_callB (k_sum (K := K) rfl rfl) rfl T.b_sum (by decide +kernel) (pa_cons (pv 0) pa_nil)))
      (pss_cons (ps_set (i := 3) sc__law_deviation.nd rfl (Or.inr rfl) (pe_callB (k_sum (K := K) rfl rfl) rfl T.b_sum (by decide +kernel) (pa_cons (pv 1) pa_nil)))
      (pss_one (ps_ret (pe_cal c__law_low (hr.mono (by decide)) rfl pass0 (pa_cons (pe_callB (k_sum (K := K) rfl rfl) rfl T.b_sum (by decide +kernel) (pa_cons (pe_lc rfl sc__law_deviation.nd (pi_range1 rfl T.b_range (pa_cons (pe_callB (k_len (K := K) rfl) rfl T.b_len (by decide +kernel) (pa_cons (pv 0) pa_nil)) pa_nil)) (blkOk_by (own := [("k", 4)]) (N := n__law_deviation) (sc := defScope s__law_deviation) (by decide +kernel)) (fun _ _ _ _ _ => by exact (pg_name (i := 4) sc__law_deviation.nd rfl (Or.inl rfl))) (fun _ _ _ _ _ => by exact pts_nil) (fun _ _ _ _ _ => by exact (pe_callB call_abs rfl T.b_abs (by decide +kernel) (pa_cons (pe_op op_sub (pe_op op_mulA (pe_ix (k_ix (K := K) rfl) (pv 1) (pv 4) (fun _ _ => rfl)) (pv 2)) (pe_op op_mulA (pv 3) (pe_ix (k_ix (K := K) rfl) (pv 0) (pv 4) (fun _ _ => rfl)))) pa_nil)))) pa_nil)) (pa_cons (pv 2) pa_nil))))))), run_pure (N := n__law_deviation) (fun ds k d hp => ?_) h⟩)
  obtain ⟨ws, as, b, rfl, h, ha, b20, rfl, rfl⟩ := hp
  have l5 := h.l5
  have s5 := h.sum5
  have la := ha.len
  have p := h.pos
  have sa := ha.sum
  have s0 := sum_nn ha.nn
  have hl : as.length = ws.length := by omega
  have d0 : 0 ≤ devI ws as := by
    rw [dev_is h hl]
    have := sR_le (n := ws.length) (f := fun _ => 0) (g := fun k => dF ws.sum (cOf ws as k) ((rstL ws as.sum).getD k 0)) fun k hk => by unfold dF; omega
    have z0 : sR ws.length (fun _ => (0 : Int)) = 0 := by
      generalize ws.length = n
      induction n with
      | zero => rfl
      | succ n ih => rw [sR_succ, ih]; rfl
    omega
  refine q_asg (d := .int ws.sum) (e_sumT (d_var rfl)) ?_
  refine q_asg (d := .int as.sum) (e_sumT (d_var rfl)) ?_
  refine s_ret (d_call (k := .v) (a_cons (Ev.to (e_sumL (d_lcI (l := List.range ws.length) (en := fun (i : Nat) => Im.d (.int (i : Int))) (fun k => ((as.getD k 0 * ws.sum - as.sum * ws.getD k 0).natAbs : Int)) (i_rngN (n := ws.length) (a_cons (Ev.to (d_lenT (d_var rfl)) (by rw [List.length_map])) a_nil) (by omega)) (by simp; omega) fun k hk => ⟨_, _, g_name, fun j hj => hj, .v, ?_⟩)) (y := .int (devI ws as)) (by rw [dev_rng hl])) (a_cons (d_var rfl) a_nil)) ⟨_, _, rfl, d0, p, by omega, rfl, rfl⟩) (.inr ⟨rfl, rfl⟩) (.inl rfl)
  have hk := List.mem_range.mp hk
  exact e_absI (d_sub (e_mul (e_ixT (d_var rfl) (d_var rfl) (at_ints (by omega)) rfl) (d_var rfl) (.inr ⟨by omega, by omega⟩)) (e_mul (d_var rfl) (e_ixT (d_var rfl) (d_var rfl) (at_ints hk) rfl) (.inl ⟨by omega, by omega⟩)))

theorem ok__law_apportioned {P : Program} {w : World} {K : PySem.W.Frag} {mg : Str → Option Value} {base : Heap} {f : Addr} {fd : FuncData} (F : Fun K "_law_apportioned" "_law_apportioned" s__law_apportioned f fd) (T : Txt mg) :
    FnOk P w K mg base CX0 1 f fd p__law_apportioned (sp__law_apportioned K) := by
  refine F.ok sc__law_apportioned (fun vs H Q E h => spD_len h (by rintro ds k d ⟨ws, b, rfl, _⟩; rfl)) (fun cdv A outer s H vs Q E hr h => ⟨_, (pss_cons (ps_set (i := 2) sc__law_apportioned.nd rfl (Or.inr rfl) (pe_callB (k_sum (K := K) rfl rfl) rfl T.b_sum (by decide +kernel) (pa_cons (pv 0) pa_nil)))
      (pss_cons (ps_set (i := 3) sc__law_apportioned.nd rfl (Or.inr rfl) (pe_lc rfl sc__law_apportioned.nd (k_seq (K := K) rfl (pv 0)) (blkOk_by (own := [("weight", 4)]) (N := n__law_apportioned) (sc := defScope s__law_apportioned) (by decide +kernel)) (fun _ _ _ _ _ => by exact (pg_name (i := 4) sc__law_apportioned.nd rfl (Or.inl rfl))) (fun _ _ _ _ _ => by exact pts_nil) (fun _ _ _ _ _ => by exact (pe_op op_fdiv (pe_op op_mulA (pv 1) (pv 4)) (pv 2)))))
      (pss_cons (ps_set (i := 5) sc__law_apportioned.nd rfl (Or.inr rfl) (pe_lst pa_nil))
      (pss_cons (ps_for PassesOwn.never rfl (pi_range1 rfl T.b_range (pa_cons (pe_op op_sub (pv 1) (pe_callB (k_sum (K := K) rfl rfl) rfl T.b_sum (by decide +kernel) (pa_cons (pv 3) pa_nil))) pa_nil)) (pg_name (i := 6) sc__law_apportioned.nd rfl (Or.inl rfl)) (pss_cons (ps_setLc (i := 7) rfl sc__law_apportioned.nd rfl rfl (sw_true rfl rfl rfl (by decide +kernel)) (pi_range1 rfl T.b_range (pa_cons (pe_callB (k_len (K := K) rfl) rfl T.b_len (by decide +kernel) (pa_cons (pv 0) pa_nil)) pa_nil)) (blkOk_by (own := [("k", 8)]) (N := n__law_apportioned) (sc := defScope s__law_apportioned) (by decide +kernel)) (fun _ _ _ _ _ => by exact (pg_name (i := 8) sc__law_apportioned.nd rfl (Or.inl rfl))) (fun _ _ _ _ _ => by exact (pts_one (pt_cmpR (k_notIn (K := K) rfl) (pv 8) (pv 5) (by with_unfolding_all rfl)))) (fun _ _ _ _ _ => by exact (pe_tupN (pa_cons (pe_op op_sub (pe_op op_mulA (pv 1) (pe_ix (k_ix (K := K) rfl) (pv 0) (pv 8) (fun _ _ => rfl))) (pe_op op_mulA (pv 2) (pe_ix (k_ix (K := K) rfl) (pv 3) (pv 8) (fun _ _ => rfl)))) (pa_cons (pe_op op_sub pe_int (pv 8)) pa_nil)))))
      (pss_one (ps_expr (k_bm (K := K) rfl PySem.F.plainAttrs_list PySem.F.slot_list_append PySem.F.type_list_append mt_append (pv 5) (pa_cons (pe_op op_sub pe_int (pe_ix (k_ix (K := K) rfl) (pe_callB (k_maxDL (K := K) rfl rfl (rUnits hr)) rfl T.b_max (by decide +kernel) (pa_cons (pv 7) pa_nil)) pe_int (fun _ _ => rfl))) pa_nil))))))
      (pss_one (ps_ret (pe_callTy (k_tuple (K := K) rfl) rfl T.b_tuple (by decide +kernel) (pa_cons (pe_lc rfl sc__law_apportioned.nd (pi_range1 rfl T.b_range (pa_cons (pe_callB (k_len (K := K) rfl) rfl T.b_len (by decide +kernel) (pa_cons (pv 0) pa_nil)) pa_nil)) (blkOk_by (own := [("k", 8)]) (N := n__law_apportioned) (sc := defScope s__law_apportioned) (by decide +kernel)) (fun _ _ _ _ _ => by exact (pg_name (i := 8) sc__law_apportioned.nd rfl (Or.inl rfl))) (fun _ _ _ _ _ => by exact pts_nil) (fun _ _ _ _ _ => by exact (pe_op (k_add (K := K) rfl) (pe_ix (k_ix (K := K) rfl) (pv 3) (pv 8) (fun _ _ => rfl)) (pe_callTy call_int1 rfl T.b_int (by decide +kernel) (pa_cons (pe_cmpR (k_in (K := K) rfl) (pv 8) (pv 5) (by with_unfolding_all rfl)) pa_nil))))) pa_nil)))))))), run_pure (N := n__law_apportioned) (fun ds k d hp => ?_) h⟩)
  obtain ⟨ws, b, rfl, h, b0, b20, rfl, rfl⟩ := hp
  have l5 := h.l5
  have s5 := h.sum5
  have p := h.pos
  have rl : (rstL ws b).length = ws.length := rst_len
  have ui := up_is (b := b) h
  have ul := up_le (b := b) h
  have gl : (grR (rstL ws b)).length = ws.length := by rw [grr_len, rl]
  have fll : (floL ws b).length = ws.length := flo_len
  refine q_asg (d := .int ws.sum) (e_sumT (d_var rfl)) ?_
  refine q_asgO (d := .list ((floL ws b).map .int)) (d_lcI (l := ws) (en := imI) (fun x => b * x / ws.sum) (i_seqTI (d_var rfl) kv_ne) (by omega) fun x hx => ⟨_, _, g_name, fun j hj => hj, .v, d_fdiv (e_mul (d_var rfl) (d_var rfl) (.inl ⟨by omega, by omega⟩)) (d_var rfl) ⟨p, by omega⟩⟩) ?_
  refine s_freeze (n := 3) rfl ?_
  refine q_asgO (d := .list ((castL ((grR (rstL ws b)).take 0)).map .int)) (d_lst (kv := false) (ds := []) a_nil rfl (by decide)) ?_
  have nin : ∀ {t k : Nat}, ((k : Int) ∈ castL ((grR (rstL ws b)).take t)) ↔ k ∈ (grR (rstL ws b)).take t := fun {t k} => by
    unfold castL
    rw [List.mem_map]
    exact ⟨fun ⟨x, hx, e⟩ => by have : x = k := by omega
                                rw [← this]; exact hx, fun w => ⟨k, w, rfl⟩⟩
  refine q_for (i_rngN (n := upN ws b) (a_cons (Ev.to (d_sub (d_var rfl) (e_sumL (d_var rfl))) (by rw [ui])) a_nil) (by omega))
    (fun t Γ1 => ∃ t6 t7, Γ1 = [some (.v (tupD ws)), some (.v (.int b)), some (.v (.int ws.sum)), some (.v (.list ((floL ws b).map .int))), none, some (.o (.list ((castL ((grR (rstL ws b)).take t)).map .int))), t6, t7, none]) ⟨_, _, rfl⟩ (fun t a Γ1 ht' hI => ?_) (fun Γ1 hI => ?_)
  · obtain ⟨t6, t7, rfl⟩ := hI
    obtain ⟨ht, rfl⟩ := rngN_at ht'
    have tw : t < ws.length := by omega
    refine ⟨_, _, g_name, ?_⟩
    obtain ⟨x, L', eL, em⟩ := gr_next (rstL ws b) (t := t) (by omega) (L := (List.range ws.length).filter fun k => !decide (k ∈ (grR (rstL ws b)).take t)) (fun k => by rw [List.mem_filter, List.mem_range, rl]; simp)
    refine q_asgO (d := .list ((x :: L').map fun k => tupD [(rstL ws b).getD k 0, -(k : Int)])) (Ev.to (d_lc (l := List.range ws.length) (en := fun (i : Nat) => Im.d (.int (i : Int))) (fun k => !decide (k ∈ (grR (rstL ws b)).take t)) (fun k => tupD [(rstL ws b).getD k 0, -(k : Int)]) (i_rngN (n := ws.length) (a_cons (Ev.to (d_lenT (d_var rfl)) (by rw [List.length_map])) a_nil) (by omega)) (by simp; omega) fun k hk => ⟨_, _, g_name, fun j hj => hj, EvT.to (t_test (d_inL (neg := true) (d_var rfl) (d_varO rfl))) (by simp only [nin]; rfl), fun _ => Ev.fo (k := .v) ?_ (flatT _)⟩) (by rw [← eL])) ?_
    · have hk := List.mem_range.mp hk
      refine (d_tup (a_consV (d_sub (e_mul (d_var rfl) (e_ixT (d_var rfl) (d_var rfl) (at_ints hk) rfl) (.inl ⟨by omega, by omega⟩)) (e_mul (d_var rfl) (e_ixL (d_var rfl) (d_var rfl) (at_ints (by omega)) rfl) (.inl ⟨by omega, by omega⟩))) (a_consV (d_sub d_int (d_var rfl)) a_nil)) (by simp)).to ?_
      rw [spl_at h hk, Int.mul_comm ws.sum, show (floL ws b).getD k 0 * ws.sum + (rstL ws b).getD k 0 - (floL ws b).getD k 0 * ws.sum = (rstL ws b).getD k 0 by omega, show (0 : Int) - (k : Int) = -(k : Int) by omega]
      rfl
    have gw : (grR (rstL ws b)).getD t 0 < ws.length := by
      have : (grR (rstL ws b)).getD t 0 ∈ grR (rstL ws b) := by simp [List.getD_eq_getElem?_getD, gl, tw]
      have := grr_mem.mp this
      omega
    have fl : flatAll ((x :: L').map fun k => tupD [(rstL ws b).getD k 0, -(k : Int)]) = true := by
      rw [show ((x :: L').map fun k => tupD [(rstL ws b).getD k 0, -(k : Int)]) = ((x :: L').map fun k => [(rstL ws b).getD k 0, -(k : Int)]).map tupD by rw [List.map_map]; rfl]
      exact fl_rows _
    have dp : PyData.depthAll ((x :: L').map fun k => tupD [(rstL ws b).getD k 0, -(k : Int)]) ≤ 60 := by
      rw [show ((x :: L').map fun k => tupD [(rstL ws b).getD k 0, -(k : Int)]) = ((x :: L').map fun k => [(rstL ws b).getD k 0, -(k : Int)]).map tupD by rw [List.map_map]; rfl]
      exact depth_rows
    refine s_app rfl (d := .int ((grR (rstL ws b)).getD t 0 : Int)) (Ev.to (d_sub d_int (e_ixT (ds := [.int ((rstL ws b).getD ((grR (rstL ws b)).getD t 0) 0), .int (-((grR (rstL ws b)).getD t 0 : Int))]) (e_maxDL (d := tupD [(rstL ws b).getD x 0, -(x : Int)]) (ds := L'.map fun k => tupD [(rstL ws b).getD k 0, -(k : Int)]) (d_varO rfl) fl ⟨fun y hy z hz => ?_, fun y hy => ?_⟩ dp em) d_int (i := 1) rfl rfl)) (by congr 1; omega)) rfl (by simp [castL]; omega) (.inl ⟨_, .inl rfl, some (.v (.int (t : Int))), some (.o (.list ((x :: L').map fun k => tupD [(rstL ws b).getD k 0, -(k : Int)]))), ?_⟩)
    · obtain ⟨i, _, rfl⟩ := List.mem_map.mp (show y ∈ (x :: L').map fun k => tupD [(rstL ws b).getD k 0, -(k : Int)] from hy)
      obtain ⟨j, _, rfl⟩ := List.mem_map.mp (show z ∈ (x :: L').map fun k => tupD [(rstL ws b).getD k 0, -(k : Int)] from hz)
      exact alike_rows _ _
    · obtain ⟨i, _, rfl⟩ := List.mem_map.mp (show y ∈ (x :: L').map fun k => tupD [(rstL ws b).getD k 0, -(k : Int)] from hy)
      exact PyData.noConfusion
    · have : (grR (rstL ws b)).take (t + 1) = (grR (rstL ws b)).take t ++ [(grR (rstL ws b)).getD t 0] := by
        rw [List.take_add_one, List.getElem?_eq_getElem (by omega)]
        simp [List.getD_eq_getElem?_getD, gl, tw]
      rw [this, castL_app, List.map_append]
      rfl
  · obtain ⟨t6, t7, rfl⟩ := hI
    rw [List.length_map, List.length_range]
    refine s_ret (d_tuple (ds := (appL ws b).map .int) (Ev.to (d_lcI (l := List.range ws.length) (en := fun (i : Nat) => Im.d (.int (i : Int))) (fun k => (floL ws b).getD k 0 + if k ∈ topR ws b then 1 else 0) (i_rngN (n := ws.length) (a_cons (Ev.to (d_lenT (d_var rfl)) (by rw [List.length_map])) a_nil) (by omega)) (by simp; omega) fun k hk => ⟨_, _, g_name, fun j hj => hj, .v, (e_add (e_ixL (d_var rfl) (d_var rfl) (at_ints (by have := List.mem_range.mp hk; omega)) rfl) (e_intB (d_inL (neg := false) (d_var rfl) (d_varO rfl)))).to ?_⟩) rfl) (flatAll_ints _)) (.inr ⟨rfl, flatAll_ints _⟩) (.inl rfl)
    simp only [nin]
    congr 2
    unfold topR
    by_cases q : k ∈ (grR (rstL ws b)).take (upN ws b) <;> simp [q]
end W

namespace W
open PySem PySem.Spec PyProof.Rows L2 Lm
theorem ok_law {P : Program} {w : World} {K : PySem.W.Frag} {mg : Str → Option Value} {base : Heap} {f : Addr} {fd : FuncData} (F : Fun K "law" "law" s_law f fd) (T : Txt mg) (c__law_stream : Cal P w K mg base CX0 1 "_law_stream" p__law_stream (sp__law_stream K)) (c__law_next : Cal P w K mg base CX0 1 "_law_next" p__law_next (sp__law_next K)) (c__law_weights : Cal P w K mg base CX0 3 "_law_weights" p__law_weights (sp__law_weights K)) (c_apportioned : Cal P w K mg base CX0 4 "apportioned" p_apportioned (sp_apportioned K)) (c__law_deviation : Cal P w K mg base CX0 3 "_law_deviation" p__law_deviation (sp__law_deviation K)) (c__law_allocations : Cal P w K mg base CX0 1 "_law_allocations" p__law_allocations (sp__law_allocations04 K)) (c__law_equal : Cal P w K mg base CX0 10 "_law_equal" p__law_equal (sp__law_equal K)) (c__law_apportioned : Cal P w K mg base CX0 1 "_law_apportioned" p__law_apportioned (sp__law_apportioned K)) (c_is_nearest : Cal P w K mg base CX0 5 "is_nearest" p_is_nearest (sp_is_nearest K)) (c_deviation : Cal P w K mg base CX0 5 "deviation" p_deviation (sp_deviation K)) :
    FnOk P w K mg base CX0 11 f fd p_law (spLaw K) := by
  refine F.ok sc_law (fun vs H Q E h => by obtain ⟨a, ns, rfl, _⟩ := h; rfl) (fun cdv A outer s H vs Q E hr h => ⟨_, (pss_cons (ps_set (i := 1) sc_law.nd rfl (Or.inl rfl) (pe_cal c__law_stream (hr.mono (by decide)) rfl pass0 (pa_cons (pv 0) pa_nil)))
      (pss_cons (ps_set (i := 2) sc_law.nd rfl (Or.inl rfl) (pe_cmpR (k_eq (K := K) rfl (rUnits hr)) (pe_cal c__law_next (hr.mono (by decide)) rfl pass0 (pa_cons (pv 1) (pa_cons pe_int pa_nil))) pe_int (nomark _)))
      (pss_cons (ps_set (i := 3) sc_law.nd rfl (Or.inl rfl) (pe_op (k_add (K := K) rfl) pe_int (pe_cal c__law_next (hr.mono (by decide)) rfl pass0 (pa_cons (pv 1) (pa_cons (pe_ifExp (pt_val (pv 2)) pe_int pe_int) pa_nil)))))
      (pss_cons (ps_set (i := 4) sc_law.nd rfl (Or.inl rfl) (pe_cal c__law_next (hr.mono (by decide)) rfl pass0 (pa_cons (pv 1) (pa_cons (pe_ifExp (pt_val (pv 2)) pe_int pe_int) pa_nil))))
      (pss_cons (ps_set (i := 5) sc_law.nd rfl (Or.inl rfl) (pe_cal c__law_weights (hr.mono (by decide)) rfl pass0 (pa_cons (pv 1) (pa_cons (pv 3) pa_nil))))
      (pss_cons (ps_set (i := 6) sc_law.nd rfl (Or.inl rfl) (pe_cal c_apportioned (hr.mono (by decide)) rfl pass0 (pa_cons (pv 5) (pa_cons (pv 4) pa_nil))))
      (pss_cons (ps_if (pt_not (pt_val (pe_cal c__law_equal (hr.mono (by decide)) rfl pass0 (pa_cons (pv 6) (pa_cons (pe_cal c__law_apportioned (hr.mono (by decide)) rfl pass0 (pa_cons (pv 5) (pa_cons (pv 4) pa_nil))) pa_nil))))) (pss_one (ps_ret pe_bl)) pss_nil)
      (pss_cons (ps_set (i := 7) sc_law.nd rfl (Or.inl rfl) (pe_cal c__law_deviation (hr.mono (by decide)) rfl pass0 (pa_cons (pv 5) (pa_cons (pv 6) pa_nil))))
      (pss_cons (ps_for PassesOwn.never rfl (k_seq (K := K) rfl (pe_cal c__law_allocations (hr.mono (by decide)) rfl pass0 (pa_cons (pv 3) (pa_cons (pv 4) pa_nil)))) (pg_name (i := 8) sc_law.nd rfl (Or.inl rfl)) (pss_cons (ps_set (i := 9) sc_law.nd rfl (Or.inl rfl) (pe_cal c__law_deviation (hr.mono (by decide)) rfl pass0 (pa_cons (pv 5) (pa_cons (pv 8) pa_nil))))
      (pss_cons (ps_if (PW.pt (pw_or (pt_not (pt_val (pe_cal c__law_equal (hr.mono (by decide)) rfl pass0 (pa_cons (pe_cal c_deviation (hr.mono (by decide)) rfl pass0 (pa_cons (pv 5) (pa_cons (pv 8) pa_nil))) (pa_cons (pv 9) pa_nil))))) (pw_or1 (pt_cmpR op_lt (pe_op op_mulA (pe_ix (k_ix (K := K) rfl) (pv 9) pe_int (fun _ _ => rfl)) (pe_ix (k_ix (K := K) rfl) (pv 7) pe_int (fun _ _ => rfl))) (pe_op op_mulA (pe_ix (k_ix (K := K) rfl) (pv 7) pe_int (fun _ _ => rfl)) (pe_ix (k_ix (K := K) rfl) (pv 9) pe_int (fun _ _ => rfl))) (nomark _))))) (pss_one (ps_ret pe_bl)) pss_nil)
      (pss_one (ps_if (pt_not (pt_val (pe_cal c__law_equal (hr.mono (by decide)) rfl pass0 (pa_cons (pe_cal c_is_nearest (hr.mono (by decide)) rfl pass0 (pa_cons (pv 5) (pa_cons (pv 8) pa_nil))) (pa_cons (pe_cmpR (k_eq (K := K) rfl (rUnits hr)) (pv 9) (pv 7) (nomark _)) pa_nil))))) (pss_one (ps_ret pe_bl)) pss_nil)))))
      (pss_one (ps_ret pe_bl))))))))))), run_law (N := n_law) (by decide) (fun st l => ?_) h⟩)
  have drw : ∀ {Γ : List (Option Rs)} (m : Int), 0 < m → m < 1073741824 → Γ[1]? = some (some (.r (.ref st))) → EvN (sc K st l) (tCall (sp__law_next K) [] E0 (tCons (tVar 1) (tCons (tC (.int m)) tNil))) Γ .v (SomeI fun i => 0 ≤ i ∧ i < m) := fun m m0 m1 h => n_call (st := st) (l := l) rfl h (a_cons d_int a_nil) ⟨m, rfl, m0, m1, rfl, rfl⟩
  refine q_asgN (fun d => ∃ mb : Bool, d = .bool mb) (n_eqB (drw 4 (by decide) (by decide) rfl) (d_int.sm (Q := fun _ => True) trivial)) ?_
  rintro _ ⟨mb, rfl⟩
  have dif : ∀ {Γ : List (Option Rs)} (x y : Int), Γ[2]? = some (some (.v (.bool mb))) → Ev (sc K st l) (tIf (tB (tVar 2)) (tC (.int x)) (tC (.int y))) Γ .v (.int (if mb then x else y)) := fun x y h => (d_if (k := .v) (a := mb) (d := .int (if mb then x else y)) (t_B (d_var h)) (fun e => d_int.to (by simp [e])) fun e => d_int.to (by simp [e]))
  refine q_asgN (SomeI fun i => 1 ≤ i ∧ i < 1 + (if mb then 3 else 4)) (n_add (d_int.sm (Q := fun m => m = 1) rfl) (n_call (st := st) (l := l) rfl rfl (a_cons (dif 3 4 rfl) a_nil) ⟨if mb then 3 else 4, rfl, by split <;> decide, by split <;> decide, rfl, rfl⟩) (fun m n hm hn => by omega)) ?_
  rintro d ⟨v0, rfl, v1, v2⟩
  obtain ⟨v, rfl⟩ := Int.eq_ofNat_of_zero_le (show 0 ≤ v0 by omega)
  refine q_asgN (SomeI fun i => 0 ≤ i ∧ i < (if mb then 21 else 7)) (n_call (st := st) (l := l) rfl rfl (a_cons (dif 21 7 rfl) a_nil) ⟨if mb then 21 else 7, rfl, by split <;> decide, by split <;> decide, rfl, rfl⟩) ?_
  rintro d ⟨b, rfl, b0, b1⟩
  have hvb : ((v : Int) ≤ 3 ∧ b ≤ 20) ∨ ((v : Int) ≤ 5 ∧ b ≤ 6) := by cases mb <;> simp at v2 b1 <;> omega
  have v5 : v ≤ 5 := by omega
  have b20 : b ≤ 20 := by omega
  refine q_asgN (fun d => ∃ ws : List Int, d = tupD ws ∧ ws.length = v ∧ Wts ws) (n_call (st := st) (l := l) rfl rfl (a_cons (d_var rfl) a_nil) ⟨v, rfl, by omega, v5, rfl, rfl⟩) ?_
  rintro _ ⟨ws, rfl, wl, hw⟩
  have ha := app_alc hw b0
  have sh2 : ∀ n d : Int, SeqAt.shaped (lowD n d) = true := fun n d => (sh_tup (n := 0) (ds := [.int (n / gcI n d), .int (d / gcI n d)]) (by simp [sh_int])).ok (by decide)
  refine q_asg (d := tupD (appL ws b)) (d_call (k := .v) (a_cons (d_var rfl) (a_cons (d_var rfl) a_nil)) ⟨ws, b, rfl, hw, b0, b20, rfl, rfl⟩) ?_
  refine q_no (EvT.to (t_not (t_B (d_call (E := E0) (k := .v) (d := .bool true) (a_cons (d_var rfl) (a_cons (d_call (k := .v) (a_cons (d_var rfl) (a_cons (d_var rfl) a_nil)) ⟨ws, b, rfl, hw, b0, b20, rfl, rfl⟩) a_nil)) ⟨tupD (appL ws b), rfl, EqOk.ints (by rw [app_len]; omega), rfl, rfl⟩))) rfl) ?_
  refine q_asg (d := lowD (devI ws (appL ws b)) ws.sum) (d_call (k := .v) (a_cons (d_var rfl) (a_cons (d_var rfl) a_nil)) ⟨ws, appL ws b, b, rfl, hw, ha, b20, rfl, rfl⟩) ?_
  show Sd (sc K st l) _ [none, some (.r (.ref st)), some (.v (.bool mb)), some (.v (.int (v : Int))), some (.v (.int b)), some (.v (tupD ws)), some (.v (tupD (appL ws b))), some (.v (lowD (devI ws (appL ws b)) ws.sum)), none, none] _
  have eq2 : ∀ n d : Int, EqOk 7 (lowD n d) := fun n d => .tup (by simp) fun x hx => by
    simp only [List.mem_cons, List.not_mem_nil, or_false] at hx
    rcases hx with rfl | rfl <;> exact .int _
  have p := hw.pos
  have s5 := hw.sum5
  have rd : ∀ n : Int, 0 ≤ ws.sum / gcI n ws.sum ∧ ws.sum / gcI n ws.sum ≤ ws.sum := fun n => ⟨Int.ediv_nonneg (by omega) (Int.le_of_lt (gc_pos p)), Int.ediv_le_self _ (by omega)⟩
  refine q_for (i_seqL (d_call (k := .o) (a_cons (d_var rfl) (a_cons (d_var rfl) a_nil)) ⟨(v : Int), b, rfl, by omega, b0, hvb, rfl, rfl⟩) ko_ne) (fun n Γ1 => ∃ t8 t9, Γ1 = [none, some (.r (.ref st)), some (.v (.bool mb)), some (.v (.int (v : Int))), some (.v (.int b)), some (.v (tupD ws)), some (.v (tupD (appL ws b))), some (.v (lowD (devI ws (appL ws b)) ws.sum)), t8, t9]) ⟨_, _, rfl⟩ (fun n a Γ1 hn' hI => ?_) (fun Γ1 hI => ?_)
  · obtain ⟨t8, t9, rfl⟩ := hI
    obtain ⟨cs, hc, rfl⟩ : ∃ cs, Alc cs (ws.length : Int) b ∧ a = .d (tupD cs) := by
      have := List.mem_of_getElem? hn'
      rw [List.map_map] at this
      obtain ⟨cs, hm, rfl⟩ := List.mem_map.mp this
      exact ⟨cs, by rw [wl]; exact (mem_alcF b0 (by omega)).mp hm, rfl⟩
    have cl : cs.length = ws.length := by have := hc.len; omega
    have nl := near_iff hw b0 cl hc.sum hc.nn
    have le : devI ws (appL ws b) ≤ devI ws cs := dev_least hw app_len cl (by rw [ha.sum, hc.sum]) (app_near hw b0)
    refine ⟨_, _, g_name, ?_⟩
    refine q_asg (d := lowD (devI ws cs) ws.sum) (d_call (k := .v) (a_cons (d_var rfl) (a_cons (d_var rfl) a_nil)) ⟨ws, cs, b, rfl, hw, hc, b20, rfl, rfl⟩) ?_
    show Sd (sc K st l) _ [none, some (.r (.ref st)), some (.v (.bool mb)), some (.v (.int (v : Int))), some (.v (.int b)), some (.v (tupD ws)), some (.v (tupD (appL ws b))), some (.v (lowD (devI ws (appL ws b)) ws.sum)), some (.v (tupD cs)), some (.v (lowD (devI ws cs) ws.sum))] _
    have ix : ∀ {Γ : List (Option Rs)} {m : Nat} {x : Int} (j : Nat) (y : Int), Γ[m]? = some (some (.v (lowD x ws.sum))) → [PyData.int (x / gcI x ws.sum), .int (ws.sum / gcI x ws.sum)][j]? = some (.int y) → Ev (sc K st l) (tOp (rIx K) (tVar m) (tC (.int (j : Int)))) Γ .v (.int y) := fun {Γ m x} j y h hj => e_ixT (d_var (h.trans rfl)) d_int (atI_nat hj) rfl
    refine q_no (EvT.to (t_or (a := false) (b := false) (EvT.to (t_not (t_B (d_call (E := E0) (k := .v) (d := .bool true) (a_cons (d_call (k := .v) (a_cons (d_var rfl) (a_cons (d_var rfl) a_nil)) ⟨ws, cs, b, rfl, hw, hc, b20, rfl, rfl⟩) (a_cons (d_var rfl) a_nil)) ⟨_, rfl, eq2 _ _, rfl, rfl⟩))) rfl) fun _ => EvT.to (t_test (d_lt (e_mul (ix 0 _ rfl rfl) (ix 1 _ rfl rfl) (.inr ⟨by have := rd (devI ws (appL ws b)); omega, by have := rd (devI ws (appL ws b)); omega⟩)) (e_mul (ix 0 _ rfl rfl) (ix 1 _ rfl rfl) (.inr ⟨by have := rd (devI ws cs); omega, by have := rd (devI ws cs); omega⟩)))) (decide_eq_false (low_ge p le))) rfl) ?_
    have en : PyData.eqv (lowD (devI ws cs) ws.sum) (lowD (devI ws (appL ws b)) ws.sum) = nearB ws cs := by
      rw [Bool.eq_iff_iff, eqv_pl rfl rfl, nearB_iff hw cl, nl]
      exact ⟨fun e => low_eq p e, fun e => by rw [e]⟩
    exact s_if (a := false) (EvT.to (t_not (t_B (d_call (E := E0) (k := .v) (d := .bool true) (a_cons (d_call (k := .v) (d := .bool (nearB ws cs)) (a_cons (d_var rfl) (a_cons (d_var rfl) a_nil)) ⟨ws, cs, b, rfl, hw, hc, b20, rfl, rfl⟩) (a_cons (Ev.to (e_eqD (d_var rfl) (d_var rfl) (sh2 _ _) (sh2 _ _)) (y := .bool (nearB ws cs)) (by rw [en])) a_nil)) ⟨.bool (nearB ws cs), rfl, .bl _, rfl, rfl⟩))) rfl) (fun z => nomatch z) fun _ => s_next (.inl ⟨_, .inl rfl, _, _, rfl⟩)
  · obtain ⟨t8, t9, rfl⟩ := hI
    exact s_ret (d_bl (a := true)) (.inr ⟨rfl, rfl⟩) rfl

end W

namespace W
open PySem PySem.Spec PyProof.Rows L2 Lm
theorem all_mk {l : PySem.W.OpenLaw} {w : World} {K : PySem.W.Frag} {h : Heap} {mg : Str → Option Value} {fa : Addr} (X : K.In h) (G : h.Ns mainGlobals mg) (hfa : mg "law" = some (.ref fa))
    {od_is_integer an_is_integer : Option Addr} {sl_is_integer : Array (Option Value)} {oc_is_integer kV_is_integer dc_is_integer pm_is_integer cd_is_integer ct_is_integer : Value} {f_is_integer : Addr}
    (a_is_integer : PySem.W.nsIn K mainGlobals "is_integer" = some (some (.ref f_is_integer))) (l_is_integer : K.lookup f_is_integer = some ⟨oc_is_integer, od_is_integer, .func (PySem.W.fnOf "is_integer" "is_integer" (defArgs s_is_integer) (defBody s_is_integer) (defScope s_is_integer) .none kV_is_integer dc_is_integer pm_is_integer an_is_integer cd_is_integer ct_is_integer), sl_is_integer⟩) (o_is_integer : PySem.W.codeIn K cd_is_integer "is_integer" = true) (k_is_integer : PySem.W.keepIn K (.ref f_is_integer) = true)
    {od_are_integers an_are_integers : Option Addr} {sl_are_integers : Array (Option Value)} {oc_are_integers kV_are_integers dc_are_integers pm_are_integers cd_are_integers ct_are_integers : Value} {f_are_integers : Addr}
    (a_are_integers : PySem.W.nsIn K mainGlobals "are_integers" = some (some (.ref f_are_integers))) (l_are_integers : K.lookup f_are_integers = some ⟨oc_are_integers, od_are_integers, .func (PySem.W.fnOf "are_integers" "are_integers" (defArgs s_are_integers) (defBody s_are_integers) (defScope s_are_integers) .none kV_are_integers dc_are_integers pm_are_integers an_are_integers cd_are_integers ct_are_integers), sl_are_integers⟩) (o_are_integers : PySem.W.codeIn K cd_are_integers "are_integers" = true) (k_are_integers : PySem.W.keepIn K (.ref f_are_integers) = true)
    {od_require an_require : Option Addr} {sl_require : Array (Option Value)} {oc_require kV_require dc_require pm_require cd_require ct_require : Value} {f_require : Addr}
    (a_require : PySem.W.nsIn K mainGlobals "require" = some (some (.ref f_require))) (l_require : K.lookup f_require = some ⟨oc_require, od_require, .func (PySem.W.fnOf "require" "require" (defArgs s_require) (defBody s_require) (defScope s_require) .none kV_require dc_require pm_require an_require cd_require ct_require), sl_require⟩) (o_require : PySem.W.codeIn K cd_require "require" = true) (k_require : PySem.W.keepIn K (.ref f_require) = true)
    {od_in_lowest_terms an_in_lowest_terms : Option Addr} {sl_in_lowest_terms : Array (Option Value)} {oc_in_lowest_terms kV_in_lowest_terms dc_in_lowest_terms pm_in_lowest_terms cd_in_lowest_terms ct_in_lowest_terms : Value} {f_in_lowest_terms : Addr}
    (a_in_lowest_terms : PySem.W.nsIn K mainGlobals "in_lowest_terms" = some (some (.ref f_in_lowest_terms))) (l_in_lowest_terms : K.lookup f_in_lowest_terms = some ⟨oc_in_lowest_terms, od_in_lowest_terms, .func (PySem.W.fnOf "in_lowest_terms" "in_lowest_terms" (defArgs s_in_lowest_terms) (defBody s_in_lowest_terms) (defScope s_in_lowest_terms) .none kV_in_lowest_terms dc_in_lowest_terms pm_in_lowest_terms an_in_lowest_terms cd_in_lowest_terms ct_in_lowest_terms), sl_in_lowest_terms⟩) (o_in_lowest_terms : PySem.W.codeIn K cd_in_lowest_terms "in_lowest_terms" = true) (k_in_lowest_terms : PySem.W.keepIn K (.ref f_in_lowest_terms) = true)
    {od_is_bounded_allocation an_is_bounded_allocation : Option Addr} {sl_is_bounded_allocation : Array (Option Value)} {oc_is_bounded_allocation kV_is_bounded_allocation dc_is_bounded_allocation pm_is_bounded_allocation cd_is_bounded_allocation ct_is_bounded_allocation : Value} {f_is_bounded_allocation : Addr}
    (a_is_bounded_allocation : PySem.W.nsIn K mainGlobals "is_bounded_allocation" = some (some (.ref f_is_bounded_allocation))) (l_is_bounded_allocation : K.lookup f_is_bounded_allocation = some ⟨oc_is_bounded_allocation, od_is_bounded_allocation, .func (PySem.W.fnOf "is_bounded_allocation" "is_bounded_allocation" (defArgs s_is_bounded_allocation) (defBody s_is_bounded_allocation) (defScope s_is_bounded_allocation) .none kV_is_bounded_allocation dc_is_bounded_allocation pm_is_bounded_allocation an_is_bounded_allocation cd_is_bounded_allocation ct_is_bounded_allocation), sl_is_bounded_allocation⟩) (o_is_bounded_allocation : PySem.W.codeIn K cd_is_bounded_allocation "is_bounded_allocation" = true) (k_is_bounded_allocation : PySem.W.keepIn K (.ref f_is_bounded_allocation) = true)
    {od_are_weights an_are_weights : Option Addr} {sl_are_weights : Array (Option Value)} {oc_are_weights kV_are_weights dc_are_weights pm_are_weights cd_are_weights ct_are_weights : Value} {f_are_weights : Addr}
    (a_are_weights : PySem.W.nsIn K mainGlobals "are_weights" = some (some (.ref f_are_weights))) (l_are_weights : K.lookup f_are_weights = some ⟨oc_are_weights, od_are_weights, .func (PySem.W.fnOf "are_weights" "are_weights" (defArgs s_are_weights) (defBody s_are_weights) (defScope s_are_weights) .none kV_are_weights dc_are_weights pm_are_weights an_are_weights cd_are_weights ct_are_weights), sl_are_weights⟩) (o_are_weights : PySem.W.codeIn K cd_are_weights "are_weights" = true) (k_are_weights : PySem.W.keepIn K (.ref f_are_weights) = true)
    {od_check_weighted an_check_weighted : Option Addr} {sl_check_weighted : Array (Option Value)} {oc_check_weighted kV_check_weighted dc_check_weighted pm_check_weighted cd_check_weighted ct_check_weighted : Value} {f_check_weighted : Addr}
    (a_check_weighted : PySem.W.nsIn K mainGlobals "check_weighted" = some (some (.ref f_check_weighted))) (l_check_weighted : K.lookup f_check_weighted = some ⟨oc_check_weighted, od_check_weighted, .func (PySem.W.fnOf "check_weighted" "check_weighted" (defArgs s_check_weighted) (defBody s_check_weighted) (defScope s_check_weighted) .none kV_check_weighted dc_check_weighted pm_check_weighted an_check_weighted cd_check_weighted ct_check_weighted), sl_check_weighted⟩) (o_check_weighted : PySem.W.codeIn K cd_check_weighted "check_weighted" = true) (k_check_weighted : PySem.W.keepIn K (.ref f_check_weighted) = true)
    {od_rests_of an_rests_of : Option Addr} {sl_rests_of : Array (Option Value)} {oc_rests_of kV_rests_of dc_rests_of pm_rests_of cd_rests_of ct_rests_of : Value} {f_rests_of : Addr}
    (a_rests_of : PySem.W.nsIn K mainGlobals "rests_of" = some (some (.ref f_rests_of))) (l_rests_of : K.lookup f_rests_of = some ⟨oc_rests_of, od_rests_of, .func (PySem.W.fnOf "rests_of" "rests_of" (defArgs s_rests_of) (defBody s_rests_of) (defScope s_rests_of) .none kV_rests_of dc_rests_of pm_rests_of an_rests_of cd_rests_of ct_rests_of), sl_rests_of⟩) (o_rests_of : PySem.W.codeIn K cd_rests_of "rests_of" = true) (k_rests_of : PySem.W.keepIn K (.ref f_rests_of) = true)
    {od_by_largest_rests an_by_largest_rests : Option Addr} {sl_by_largest_rests : Array (Option Value)} {oc_by_largest_rests kV_by_largest_rests dc_by_largest_rests pm_by_largest_rests cd_by_largest_rests ct_by_largest_rests : Value} {f_by_largest_rests : Addr}
    (a_by_largest_rests : PySem.W.nsIn K mainGlobals "by_largest_rests" = some (some (.ref f_by_largest_rests))) (l_by_largest_rests : K.lookup f_by_largest_rests = some ⟨oc_by_largest_rests, od_by_largest_rests, .func (PySem.W.fnOf "by_largest_rests" "by_largest_rests" (defArgs s_by_largest_rests) (defBody s_by_largest_rests) (defScope s_by_largest_rests) .none kV_by_largest_rests dc_by_largest_rests pm_by_largest_rests an_by_largest_rests cd_by_largest_rests ct_by_largest_rests), sl_by_largest_rests⟩) (o_by_largest_rests : PySem.W.codeIn K cd_by_largest_rests "by_largest_rests" = true) (k_by_largest_rests : PySem.W.keepIn K (.ref f_by_largest_rests) = true)
    {od_apportioned an_apportioned : Option Addr} {sl_apportioned : Array (Option Value)} {oc_apportioned kV_apportioned dc_apportioned pm_apportioned cd_apportioned ct_apportioned : Value} {f_apportioned : Addr}
    (a_apportioned : PySem.W.nsIn K mainGlobals "apportioned" = some (some (.ref f_apportioned))) (l_apportioned : K.lookup f_apportioned = some ⟨oc_apportioned, od_apportioned, .func (PySem.W.fnOf "apportioned" "apportioned" (defArgs s_apportioned) (defBody s_apportioned) (defScope s_apportioned) .none kV_apportioned dc_apportioned pm_apportioned an_apportioned cd_apportioned ct_apportioned), sl_apportioned⟩) (o_apportioned : PySem.W.codeIn K cd_apportioned "apportioned" = true) (k_apportioned : PySem.W.keepIn K (.ref f_apportioned) = true)
    {od_surpluses an_surpluses : Option Addr} {sl_surpluses : Array (Option Value)} {oc_surpluses kV_surpluses dc_surpluses pm_surpluses cd_surpluses ct_surpluses : Value} {f_surpluses : Addr}
    (a_surpluses : PySem.W.nsIn K mainGlobals "surpluses" = some (some (.ref f_surpluses))) (l_surpluses : K.lookup f_surpluses = some ⟨oc_surpluses, od_surpluses, .func (PySem.W.fnOf "surpluses" "surpluses" (defArgs s_surpluses) (defBody s_surpluses) (defScope s_surpluses) .none kV_surpluses dc_surpluses pm_surpluses an_surpluses cd_surpluses ct_surpluses), sl_surpluses⟩) (o_surpluses : PySem.W.codeIn K cd_surpluses "surpluses" = true) (k_surpluses : PySem.W.keepIn K (.ref f_surpluses) = true)
    {od_deviation an_deviation : Option Addr} {sl_deviation : Array (Option Value)} {oc_deviation kV_deviation dc_deviation pm_deviation cd_deviation ct_deviation : Value} {f_deviation : Addr}
    (a_deviation : PySem.W.nsIn K mainGlobals "deviation" = some (some (.ref f_deviation))) (l_deviation : K.lookup f_deviation = some ⟨oc_deviation, od_deviation, .func (PySem.W.fnOf "deviation" "deviation" (defArgs s_deviation) (defBody s_deviation) (defScope s_deviation) .none kV_deviation dc_deviation pm_deviation an_deviation cd_deviation ct_deviation), sl_deviation⟩) (o_deviation : PySem.W.codeIn K cd_deviation "deviation" = true) (k_deviation : PySem.W.keepIn K (.ref f_deviation) = true)
    {od_is_nearest an_is_nearest : Option Addr} {sl_is_nearest : Array (Option Value)} {oc_is_nearest kV_is_nearest dc_is_nearest pm_is_nearest cd_is_nearest ct_is_nearest : Value} {f_is_nearest : Addr}
    (a_is_nearest : PySem.W.nsIn K mainGlobals "is_nearest" = some (some (.ref f_is_nearest))) (l_is_nearest : K.lookup f_is_nearest = some ⟨oc_is_nearest, od_is_nearest, .func (PySem.W.fnOf "is_nearest" "is_nearest" (defArgs s_is_nearest) (defBody s_is_nearest) (defScope s_is_nearest) .none kV_is_nearest dc_is_nearest pm_is_nearest an_is_nearest cd_is_nearest ct_is_nearest), sl_is_nearest⟩) (o_is_nearest : PySem.W.codeIn K cd_is_nearest "is_nearest" = true) (k_is_nearest : PySem.W.keepIn K (.ref f_is_nearest) = true)
    {od__law_stream an__law_stream : Option Addr} {sl__law_stream : Array (Option Value)} {oc__law_stream kV__law_stream dc__law_stream pm__law_stream cd__law_stream ct__law_stream : Value} {f__law_stream : Addr}
    (a__law_stream : PySem.W.nsIn K mainGlobals "_law_stream" = some (some (.ref f__law_stream))) (l__law_stream : K.lookup f__law_stream = some ⟨oc__law_stream, od__law_stream, .func (PySem.W.fnOf "_law_stream" "_law_stream" (defArgs s__law_stream) (defBody s__law_stream) (defScope s__law_stream) .none kV__law_stream dc__law_stream pm__law_stream an__law_stream cd__law_stream ct__law_stream), sl__law_stream⟩) (o__law_stream : PySem.W.codeIn K cd__law_stream "_law_stream" = true) (k__law_stream : PySem.W.keepIn K (.ref f__law_stream) = true)
    {od__law_next an__law_next : Option Addr} {sl__law_next : Array (Option Value)} {oc__law_next kV__law_next dc__law_next pm__law_next cd__law_next ct__law_next : Value} {f__law_next : Addr}
    (a__law_next : PySem.W.nsIn K mainGlobals "_law_next" = some (some (.ref f__law_next))) (l__law_next : K.lookup f__law_next = some ⟨oc__law_next, od__law_next, .func (PySem.W.fnOf "_law_next" "_law_next" (defArgs s__law_next) (defBody s__law_next) (defScope s__law_next) .none kV__law_next dc__law_next pm__law_next an__law_next cd__law_next ct__law_next), sl__law_next⟩) (o__law_next : PySem.W.codeIn K cd__law_next "_law_next" = true) (k__law_next : PySem.W.keepIn K (.ref f__law_next) = true)
    {od__law_is_integer an__law_is_integer : Option Addr} {sl__law_is_integer : Array (Option Value)} {oc__law_is_integer kV__law_is_integer dc__law_is_integer pm__law_is_integer cd__law_is_integer ct__law_is_integer : Value} {f__law_is_integer : Addr}
    (a__law_is_integer : PySem.W.nsIn K mainGlobals "_law_is_integer" = some (some (.ref f__law_is_integer))) (l__law_is_integer : K.lookup f__law_is_integer = some ⟨oc__law_is_integer, od__law_is_integer, .func (PySem.W.fnOf "_law_is_integer" "_law_is_integer" (defArgs s__law_is_integer) (defBody s__law_is_integer) (defScope s__law_is_integer) .none kV__law_is_integer dc__law_is_integer pm__law_is_integer an__law_is_integer cd__law_is_integer ct__law_is_integer), sl__law_is_integer⟩) (o__law_is_integer : PySem.W.codeIn K cd__law_is_integer "_law_is_integer" = true) (k__law_is_integer : PySem.W.keepIn K (.ref f__law_is_integer) = true)
    {od__law_gcd an__law_gcd : Option Addr} {sl__law_gcd : Array (Option Value)} {oc__law_gcd kV__law_gcd dc__law_gcd pm__law_gcd cd__law_gcd ct__law_gcd : Value} {f__law_gcd : Addr}
    (a__law_gcd : PySem.W.nsIn K mainGlobals "_law_gcd" = some (some (.ref f__law_gcd))) (l__law_gcd : K.lookup f__law_gcd = some ⟨oc__law_gcd, od__law_gcd, .func (PySem.W.fnOf "_law_gcd" "_law_gcd" (defArgs s__law_gcd) (defBody s__law_gcd) (defScope s__law_gcd) .none kV__law_gcd dc__law_gcd pm__law_gcd an__law_gcd cd__law_gcd ct__law_gcd), sl__law_gcd⟩) (o__law_gcd : PySem.W.codeIn K cd__law_gcd "_law_gcd" = true) (k__law_gcd : PySem.W.keepIn K (.ref f__law_gcd) = true)
    {od__law_low an__law_low : Option Addr} {sl__law_low : Array (Option Value)} {oc__law_low kV__law_low dc__law_low pm__law_low cd__law_low ct__law_low : Value} {f__law_low : Addr}
    (a__law_low : PySem.W.nsIn K mainGlobals "_law_low" = some (some (.ref f__law_low))) (l__law_low : K.lookup f__law_low = some ⟨oc__law_low, od__law_low, .func (PySem.W.fnOf "_law_low" "_law_low" (defArgs s__law_low) (defBody s__law_low) (defScope s__law_low) .none kV__law_low dc__law_low pm__law_low an__law_low cd__law_low ct__law_low), sl__law_low⟩) (o__law_low : PySem.W.codeIn K cd__law_low "_law_low" = true) (k__law_low : PySem.W.keepIn K (.ref f__law_low) = true)
    {od__law_equal an__law_equal : Option Addr} {sl__law_equal : Array (Option Value)} {oc__law_equal kV__law_equal dc__law_equal pm__law_equal cd__law_equal ct__law_equal : Value} {f__law_equal : Addr}
    (a__law_equal : PySem.W.nsIn K mainGlobals "_law_equal" = some (some (.ref f__law_equal))) (l__law_equal : K.lookup f__law_equal = some ⟨oc__law_equal, od__law_equal, .func (PySem.W.fnOf "_law_equal" "_law_equal" (defArgs s__law_equal) (defBody s__law_equal) (defScope s__law_equal) .none kV__law_equal dc__law_equal pm__law_equal an__law_equal cd__law_equal ct__law_equal), sl__law_equal⟩) (o__law_equal : PySem.W.codeIn K cd__law_equal "_law_equal" = true) (k__law_equal : PySem.W.keepIn K (.ref f__law_equal) = true)
    {od__law_pick an__law_pick : Option Addr} {sl__law_pick : Array (Option Value)} {oc__law_pick kV__law_pick dc__law_pick pm__law_pick cd__law_pick ct__law_pick : Value} {f__law_pick : Addr}
    (a__law_pick : PySem.W.nsIn K mainGlobals "_law_pick" = some (some (.ref f__law_pick))) (l__law_pick : K.lookup f__law_pick = some ⟨oc__law_pick, od__law_pick, .func (PySem.W.fnOf "_law_pick" "_law_pick" (defArgs s__law_pick) (defBody s__law_pick) (defScope s__law_pick) .none kV__law_pick dc__law_pick pm__law_pick an__law_pick cd__law_pick ct__law_pick), sl__law_pick⟩) (o__law_pick : PySem.W.codeIn K cd__law_pick "_law_pick" = true) (k__law_pick : PySem.W.keepIn K (.ref f__law_pick) = true)
    {od__law_allocations an__law_allocations : Option Addr} {sl__law_allocations : Array (Option Value)} {oc__law_allocations kV__law_allocations dc__law_allocations pm__law_allocations cd__law_allocations ct__law_allocations : Value} {f__law_allocations : Addr}
    (a__law_allocations : PySem.W.nsIn K mainGlobals "_law_allocations" = some (some (.ref f__law_allocations))) (l__law_allocations : K.lookup f__law_allocations = some ⟨oc__law_allocations, od__law_allocations, .func (PySem.W.fnOf "_law_allocations" "_law_allocations" (defArgs s__law_allocations) (defBody s__law_allocations) (defScope s__law_allocations) .none kV__law_allocations dc__law_allocations pm__law_allocations an__law_allocations cd__law_allocations ct__law_allocations), sl__law_allocations⟩) (o__law_allocations : PySem.W.codeIn K cd__law_allocations "_law_allocations" = true) (k__law_allocations : PySem.W.keepIn K (.ref f__law_allocations) = true)
    {od__law_weights an__law_weights : Option Addr} {sl__law_weights : Array (Option Value)} {oc__law_weights kV__law_weights dc__law_weights pm__law_weights cd__law_weights ct__law_weights : Value} {f__law_weights : Addr}
    (a__law_weights : PySem.W.nsIn K mainGlobals "_law_weights" = some (some (.ref f__law_weights))) (l__law_weights : K.lookup f__law_weights = some ⟨oc__law_weights, od__law_weights, .func (PySem.W.fnOf "_law_weights" "_law_weights" (defArgs s__law_weights) (defBody s__law_weights) (defScope s__law_weights) .none kV__law_weights dc__law_weights pm__law_weights an__law_weights cd__law_weights ct__law_weights), sl__law_weights⟩) (o__law_weights : PySem.W.codeIn K cd__law_weights "_law_weights" = true) (k__law_weights : PySem.W.keepIn K (.ref f__law_weights) = true)
    {od__law_deviation an__law_deviation : Option Addr} {sl__law_deviation : Array (Option Value)} {oc__law_deviation kV__law_deviation dc__law_deviation pm__law_deviation cd__law_deviation ct__law_deviation : Value} {f__law_deviation : Addr}
    (a__law_deviation : PySem.W.nsIn K mainGlobals "_law_deviation" = some (some (.ref f__law_deviation))) (l__law_deviation : K.lookup f__law_deviation = some ⟨oc__law_deviation, od__law_deviation, .func (PySem.W.fnOf "_law_deviation" "_law_deviation" (defArgs s__law_deviation) (defBody s__law_deviation) (defScope s__law_deviation) .none kV__law_deviation dc__law_deviation pm__law_deviation an__law_deviation cd__law_deviation ct__law_deviation), sl__law_deviation⟩) (o__law_deviation : PySem.W.codeIn K cd__law_deviation "_law_deviation" = true) (k__law_deviation : PySem.W.keepIn K (.ref f__law_deviation) = true)
    {od__law_apportioned an__law_apportioned : Option Addr} {sl__law_apportioned : Array (Option Value)} {oc__law_apportioned kV__law_apportioned dc__law_apportioned pm__law_apportioned cd__law_apportioned ct__law_apportioned : Value} {f__law_apportioned : Addr}
    (a__law_apportioned : PySem.W.nsIn K mainGlobals "_law_apportioned" = some (some (.ref f__law_apportioned))) (l__law_apportioned : K.lookup f__law_apportioned = some ⟨oc__law_apportioned, od__law_apportioned, .func (PySem.W.fnOf "_law_apportioned" "_law_apportioned" (defArgs s__law_apportioned) (defBody s__law_apportioned) (defScope s__law_apportioned) .none kV__law_apportioned dc__law_apportioned pm__law_apportioned an__law_apportioned cd__law_apportioned ct__law_apportioned), sl__law_apportioned⟩) (o__law_apportioned : PySem.W.codeIn K cd__law_apportioned "_law_apportioned" = true) (k__law_apportioned : PySem.W.keepIn K (.ref f__law_apportioned) = true)
    {od_law an_law : Option Addr} {sl_law : Array (Option Value)} {oc_law kV_law dc_law pm_law cd_law ct_law : Value} {f_law : Addr}
    (a_law : PySem.W.nsIn K mainGlobals "law" = some (some (.ref f_law))) (l_law : K.lookup f_law = some ⟨oc_law, od_law, .func (PySem.W.fnOf "law" "law" (defArgs s_law) (defBody s_law) (defScope s_law) .none kV_law dc_law pm_law an_law cd_law ct_law), sl_law⟩) (o_law : PySem.W.codeIn K cd_law "law" = true) (k_law : PySem.W.keepIn K (.ref f_law) = true)
    (z_abs : PySem.W.nsIn K mainGlobals "abs" = some none)
    (z_all : PySem.W.nsIn K mainGlobals "all" = some none)
    (z_bool : PySem.W.nsIn K mainGlobals "bool" = some none)
    (z_enumerate : PySem.W.nsIn K mainGlobals "enumerate" = some none)
    (z_int : PySem.W.nsIn K mainGlobals "int" = some none)
    (z_isinstance : PySem.W.nsIn K mainGlobals "isinstance" = some none)
    (z_len : PySem.W.nsIn K mainGlobals "len" = some none)
    (z_list : PySem.W.nsIn K mainGlobals "list" = some none)
    (z_max : PySem.W.nsIn K mainGlobals "max" = some none)
    (z_min : PySem.W.nsIn K mainGlobals "min" = some none)
    (z_range : PySem.W.nsIn K mainGlobals "range" = some none)
    (z_sorted : PySem.W.nsIn K mainGlobals "sorted" = some none)
    (z_str : PySem.W.nsIn K mainGlobals "str" = some none)
    (z_sum : PySem.W.nsIn K mainGlobals "sum" = some none)
    (z_tuple : PySem.W.nsIn K mainGlobals "tuple" = some none)
    (z_zip : PySem.W.nsIn K mainGlobals "zip" = some none)
    {tk_MOST_VARIANTS : Tok} (g_MOST_VARIANTS : PySem.W.nsIn K mainGlobals "MOST_VARIANTS" = some (some (.int 5 tk_MOST_VARIANTS)))
    {tk_MOST_BUCKETS : Tok} (g_MOST_BUCKETS : PySem.W.nsIn K mainGlobals "MOST_BUCKETS" = some (some (.int 20 tk_MOST_BUCKETS)))
    {tk_GREATEST_WEIGHT : Tok} (g_GREATEST_WEIGHT : PySem.W.nsIn K mainGlobals "GREATEST_WEIGHT" = some (some (.int 1000000 tk_GREATEST_WEIGHT)))
    (i_gcd : PySem.W.nsIn K mainGlobals "gcd" = some (some (.builtin "math.gcd"))) :
    ∃ fd : FuncData, (∀ (s : Shared) (v : Value), BindsTo s fd ⟨[v], []⟩ [("script", v)]) ∧ ∀ base : Heap, K.In base → base.Ns mainGlobals mg → FnOk l.prog w K mg base CX0 11 fa fd ["script"] (spLaw K) := by
  have e := hfa.symm.trans (PySem.W.mg_of X G a_law)
  cases e
  have T : Txt mg := { b_abs := PySem.W.mg_none_of X G z_abs, b_all := PySem.W.mg_none_of X G z_all, b_bool := PySem.W.mg_none_of X G z_bool, b_enumerate := PySem.W.mg_none_of X G z_enumerate, b_int := PySem.W.mg_none_of X G z_int, b_isinstance := PySem.W.mg_none_of X G z_isinstance, b_len := PySem.W.mg_none_of X G z_len, b_list := PySem.W.mg_none_of X G z_list, b_max := PySem.W.mg_none_of X G z_max, b_min := PySem.W.mg_none_of X G z_min, b_range := PySem.W.mg_none_of X G z_range, b_sorted := PySem.W.mg_none_of X G z_sorted, b_str := PySem.W.mg_none_of X G z_str, b_sum := PySem.W.mg_none_of X G z_sum, b_tuple := PySem.W.mg_none_of X G z_tuple, b_zip := PySem.W.mg_none_of X G z_zip, k_MOST_VARIANTS := ⟨_, PySem.W.mg_of X G g_MOST_VARIANTS⟩, k_MOST_BUCKETS := ⟨_, PySem.W.mg_of X G g_MOST_BUCKETS⟩, k_GREATEST_WEIGHT := ⟨_, PySem.W.mg_of X G g_GREATEST_WEIGHT⟩, i_gcd := PySem.W.mg_of X G i_gcd }
  have F_is_integer := fun_mk (st := s_is_integer) l_is_integer o_is_integer k_is_integer
  have b_is_integer := F_is_integer.binds (ps := p_is_integer) fun _ _ _ _ _ _ us hl => match us, hl with | [_, _, _], _ => rfl
  have m_is_integer := PySem.W.mg_of X G a_is_integer
  have F_are_integers := fun_mk (st := s_are_integers) l_are_integers o_are_integers k_are_integers
  have b_are_integers := F_are_integers.binds (ps := p_are_integers) fun _ _ _ _ _ _ us hl => match us, hl with | [_, _, _], _ => rfl
  have m_are_integers := PySem.W.mg_of X G a_are_integers
  have F_require := fun_mk (st := s_require) l_require o_require k_require
  have b_require := F_require.binds (ps := p_require) fun _ _ _ _ _ _ us hl => match us, hl with | [_, _], _ => rfl
  have m_require := PySem.W.mg_of X G a_require
  have F_in_lowest_terms := fun_mk (st := s_in_lowest_terms) l_in_lowest_terms o_in_lowest_terms k_in_lowest_terms
  have b_in_lowest_terms := F_in_lowest_terms.binds (ps := p_in_lowest_terms) fun _ _ _ _ _ _ us hl => match us, hl with | [_, _], _ => rfl
  have m_in_lowest_terms := PySem.W.mg_of X G a_in_lowest_terms
  have F_is_bounded_allocation := fun_mk (st := s_is_bounded_allocation) l_is_bounded_allocation o_is_bounded_allocation k_is_bounded_allocation
  have b_is_bounded_allocation := F_is_bounded_allocation.binds (ps := p_is_bounded_allocation) fun _ _ _ _ _ _ us hl => match us, hl with | [_], _ => rfl
  have m_is_bounded_allocation := PySem.W.mg_of X G a_is_bounded_allocation
  have F_are_weights := fun_mk (st := s_are_weights) l_are_weights o_are_weights k_are_weights
  have b_are_weights := F_are_weights.binds (ps := p_are_weights) fun _ _ _ _ _ _ us hl => match us, hl with | [_], _ => rfl
  have m_are_weights := PySem.W.mg_of X G a_are_weights
  have F_check_weighted := fun_mk (st := s_check_weighted) l_check_weighted o_check_weighted k_check_weighted
  have b_check_weighted := F_check_weighted.binds (ps := p_check_weighted) fun _ _ _ _ _ _ us hl => match us, hl with | [_, _], _ => rfl
  have m_check_weighted := PySem.W.mg_of X G a_check_weighted
  have F_rests_of := fun_mk (st := s_rests_of) l_rests_of o_rests_of k_rests_of
  have b_rests_of := F_rests_of.binds (ps := p_rests_of) fun _ _ _ _ _ _ us hl => match us, hl with | [_, _], _ => rfl
  have m_rests_of := PySem.W.mg_of X G a_rests_of
  have F_by_largest_rests := fun_mk (st := s_by_largest_rests) l_by_largest_rests o_by_largest_rests k_by_largest_rests
  have b_by_largest_rests := F_by_largest_rests.binds (ps := p_by_largest_rests) fun _ _ _ _ _ _ us hl => match us, hl with | [_, _], _ => rfl
  have m_by_largest_rests := PySem.W.mg_of X G a_by_largest_rests
  have F_apportioned := fun_mk (st := s_apportioned) l_apportioned o_apportioned k_apportioned
  have b_apportioned := F_apportioned.binds (ps := p_apportioned) fun _ _ _ _ _ _ us hl => match us, hl with | [_, _], _ => rfl
  have m_apportioned := PySem.W.mg_of X G a_apportioned
  have F_surpluses := fun_mk (st := s_surpluses) l_surpluses o_surpluses k_surpluses
  have b_surpluses := F_surpluses.binds (ps := p_surpluses) fun _ _ _ _ _ _ us hl => match us, hl with | [_, _], _ => rfl
  have m_surpluses := PySem.W.mg_of X G a_surpluses
  have F_deviation := fun_mk (st := s_deviation) l_deviation o_deviation k_deviation
  have b_deviation := F_deviation.binds (ps := p_deviation) fun _ _ _ _ _ _ us hl => match us, hl with | [_, _], _ => rfl
  have m_deviation := PySem.W.mg_of X G a_deviation
  have F_is_nearest := fun_mk (st := s_is_nearest) l_is_nearest o_is_nearest k_is_nearest
  have b_is_nearest := F_is_nearest.binds (ps := p_is_nearest) fun _ _ _ _ _ _ us hl => match us, hl with | [_, _], _ => rfl
  have m_is_nearest := PySem.W.mg_of X G a_is_nearest
  have F__law_stream := fun_mk (st := s__law_stream) l__law_stream o__law_stream k__law_stream
  have b__law_stream := F__law_stream.binds (ps := p__law_stream) fun _ _ _ _ _ _ us hl => match us, hl with | [_], _ => rfl
  have m__law_stream := PySem.W.mg_of X G a__law_stream
  have F__law_next := fun_mk (st := s__law_next) l__law_next o__law_next k__law_next
  have b__law_next := F__law_next.binds (ps := p__law_next) fun _ _ _ _ _ _ us hl => match us, hl with | [_, _], _ => rfl
  have m__law_next := PySem.W.mg_of X G a__law_next
  have F__law_is_integer := fun_mk (st := s__law_is_integer) l__law_is_integer o__law_is_integer k__law_is_integer
  have b__law_is_integer := F__law_is_integer.binds (ps := p__law_is_integer) fun _ _ _ _ _ _ us hl => match us, hl with | [_], _ => rfl
  have m__law_is_integer := PySem.W.mg_of X G a__law_is_integer
  have F__law_gcd := fun_mk (st := s__law_gcd) l__law_gcd o__law_gcd k__law_gcd
  have b__law_gcd := F__law_gcd.binds (ps := p__law_gcd) fun _ _ _ _ _ _ us hl => match us, hl with | [_, _], _ => rfl
  have m__law_gcd := PySem.W.mg_of X G a__law_gcd
  have F__law_low := fun_mk (st := s__law_low) l__law_low o__law_low k__law_low
  have b__law_low := F__law_low.binds (ps := p__law_low) fun _ _ _ _ _ _ us hl => match us, hl with | [_, _], _ => rfl
  have m__law_low := PySem.W.mg_of X G a__law_low
  have F__law_equal := fun_mk (st := s__law_equal) l__law_equal o__law_equal k__law_equal
  have b__law_equal := F__law_equal.binds (ps := p__law_equal) fun _ _ _ _ _ _ us hl => match us, hl with | [_, _], _ => rfl
  have m__law_equal := PySem.W.mg_of X G a__law_equal
  have F__law_pick := fun_mk (st := s__law_pick) l__law_pick o__law_pick k__law_pick
  have b__law_pick := F__law_pick.binds (ps := p__law_pick) fun _ _ _ _ _ _ us hl => match us, hl with | [_, _], _ => rfl
  have m__law_pick := PySem.W.mg_of X G a__law_pick
  have F__law_allocations := fun_mk (st := s__law_allocations) l__law_allocations o__law_allocations k__law_allocations
  have b__law_allocations := F__law_allocations.binds (ps := p__law_allocations) fun _ _ _ _ _ _ us hl => match us, hl with | [_, _], _ => rfl
  have m__law_allocations := PySem.W.mg_of X G a__law_allocations
  have F__law_weights := fun_mk (st := s__law_weights) l__law_weights o__law_weights k__law_weights
  have b__law_weights := F__law_weights.binds (ps := p__law_weights) fun _ _ _ _ _ _ us hl => match us, hl with | [_, _], _ => rfl
  have m__law_weights := PySem.W.mg_of X G a__law_weights
  have F__law_deviation := fun_mk (st := s__law_deviation) l__law_deviation o__law_deviation k__law_deviation
  have b__law_deviation := F__law_deviation.binds (ps := p__law_deviation) fun _ _ _ _ _ _ us hl => match us, hl with | [_, _], _ => rfl
  have m__law_deviation := PySem.W.mg_of X G a__law_deviation
  have F__law_apportioned := fun_mk (st := s__law_apportioned) l__law_apportioned o__law_apportioned k__law_apportioned
  have b__law_apportioned := F__law_apportioned.binds (ps := p__law_apportioned) fun _ _ _ _ _ _ us hl => match us, hl with | [_, _], _ => rfl
  have m__law_apportioned := PySem.W.mg_of X G a__law_apportioned
  have F_law := fun_mk (st := s_law) l_law o_law k_law
  refine ⟨PySem.W.fnOf "law" "law" (defArgs s_law) (defBody s_law) (defScope s_law) .none kV_law dc_law pm_law an_law cd_law ct_law, fun s v => .of_eq rfl, fun base _ _ => ?_⟩
  have c_is_integer : Cal l.prog w K mg base CX0 1 "is_integer" p_is_integer (sp_is_integer K) := ⟨_, _, ok_is_integer F_is_integer T, m_is_integer, k_is_integer, b_is_integer⟩
  have c_require : Cal l.prog w K mg base CX0 1 "require" p_require (sp_require K) := ⟨_, _, ok_require F_require T, m_require, k_require, b_require⟩
  have c_in_lowest_terms : Cal l.prog w K mg base CX0 1 "in_lowest_terms" p_in_lowest_terms (sp_in_lowest_terms K) := ⟨_, _, ok_in_lowest_terms F_in_lowest_terms T, m_in_lowest_terms, k_in_lowest_terms, b_in_lowest_terms⟩
  have c_rests_of : Cal l.prog w K mg base CX0 1 "rests_of" p_rests_of (sp_rests_of K) := ⟨_, _, ok_rests_of F_rests_of T, m_rests_of, k_rests_of, b_rests_of⟩
  have c_surpluses : Cal l.prog w K mg base CX0 1 "surpluses" p_surpluses (sp_surpluses K) := ⟨_, _, ok_surpluses F_surpluses T, m_surpluses, k_surpluses, b_surpluses⟩
  have c__law_stream : Cal l.prog w K mg base CX0 1 "_law_stream" p__law_stream (sp__law_stream K) := ⟨_, _, ok__law_stream F__law_stream T, m__law_stream, k__law_stream, b__law_stream⟩
  have c__law_next : Cal l.prog w K mg base CX0 1 "_law_next" p__law_next (sp__law_next K) := ⟨_, _, ok__law_next F__law_next T, m__law_next, k__law_next, b__law_next⟩
  have c__law_is_integer : Cal l.prog w K mg base CX0 1 "_law_is_integer" p__law_is_integer (sp__law_is_integer K) := ⟨_, _, ok__law_is_integer F__law_is_integer T, m__law_is_integer, k__law_is_integer, b__law_is_integer⟩
  have c__law_gcd : Cal l.prog w K mg base CX0 1 "_law_gcd" p__law_gcd (sp__law_gcd K) := ⟨_, _, ok__law_gcd F__law_gcd T, m__law_gcd, k__law_gcd, b__law_gcd⟩
  have c__law_allocations : Cal l.prog w K mg base CX0 1 "_law_allocations" p__law_allocations (sp__law_allocations04 K) := ⟨_, _, ok__law_allocations F__law_allocations T, m__law_allocations, k__law_allocations, b__law_allocations⟩
  have c__law_apportioned : Cal l.prog w K mg base CX0 1 "_law_apportioned" p__law_apportioned (sp__law_apportioned K) := ⟨_, _, ok__law_apportioned F__law_apportioned T, m__law_apportioned, k__law_apportioned, b__law_apportioned⟩
  have c_are_integers : Cal l.prog w K mg base CX0 2 "are_integers" p_are_integers (sp_are_integers K) := ⟨_, _, ok_are_integers F_are_integers T c_is_integer, m_are_integers, k_are_integers, b_are_integers⟩
  have c_by_largest_rests : Cal l.prog w K mg base CX0 2 "by_largest_rests" p_by_largest_rests (sp_by_largest_rests K) := ⟨_, _, ok_by_largest_rests F_by_largest_rests T c_rests_of, m_by_largest_rests, k_by_largest_rests, b_by_largest_rests⟩
  have c__law_low : Cal l.prog w K mg base CX0 2 "_law_low" p__law_low (sp__law_low K) := ⟨_, _, ok__law_low F__law_low T c__law_gcd, m__law_low, k__law_low, b__law_low⟩
  have c__law_pick : Cal l.prog w K mg base CX0 2 "_law_pick" p__law_pick (sp__law_pickI K) := ⟨_, _, ok__law_pick F__law_pick T c__law_next, m__law_pick, k__law_pick, b__law_pick⟩
  have c_is_bounded_allocation : Cal l.prog w K mg base CX0 3 "is_bounded_allocation" p_is_bounded_allocation (sp_is_bounded_allocationX K) := ⟨_, _, ok_is_bounded_allocation F_is_bounded_allocation T c_are_integers, m_is_bounded_allocation, k_is_bounded_allocation, b_is_bounded_allocation⟩
  have c_are_weights : Cal l.prog w K mg base CX0 3 "are_weights" p_are_weights (sp_are_weights K) := ⟨_, _, ok_are_weights F_are_weights T c_are_integers, m_are_weights, k_are_weights, b_are_weights⟩
  have c__law_weights : Cal l.prog w K mg base CX0 3 "_law_weights" p__law_weights (sp__law_weights K) := ⟨_, _, ok__law_weights F__law_weights T c__law_pick c__law_next, m__law_weights, k__law_weights, b__law_weights⟩
  have c__law_deviation : Cal l.prog w K mg base CX0 3 "_law_deviation" p__law_deviation (sp__law_deviation K) := ⟨_, _, ok__law_deviation F__law_deviation T c__law_low, m__law_deviation, k__law_deviation, b__law_deviation⟩
  have c_check_weighted : Cal l.prog w K mg base CX0 4 "check_weighted" p_check_weighted (sp_check_weighted K) := ⟨_, _, ok_check_weighted F_check_weighted T c_require c_are_weights c_is_bounded_allocation, m_check_weighted, k_check_weighted, b_check_weighted⟩
  have c_apportioned : Cal l.prog w K mg base CX0 4 "apportioned" p_apportioned (sp_apportioned K) := ⟨_, _, ok_apportioned F_apportioned T c_require c_by_largest_rests c_are_weights c_is_integer, m_apportioned, k_apportioned, b_apportioned⟩
  have c_deviation : Cal l.prog w K mg base CX0 5 "deviation" p_deviation (sp_deviation K) := ⟨_, _, ok_deviation F_deviation T c_check_weighted c_in_lowest_terms c_surpluses, m_deviation, k_deviation, b_deviation⟩
  have c_is_nearest : Cal l.prog w K mg base CX0 5 "is_nearest" p_is_nearest (sp_is_nearest K) := ⟨_, _, ok_is_nearest F_is_nearest T c_check_weighted c_surpluses c_rests_of, m_is_nearest, k_is_nearest, b_is_nearest⟩
  have c__law_equal : Cal l.prog w K mg base CX0 10 "_law_equal" p__law_equal (sp__law_equal K) := ⟨_, _, ok__law_equal F__law_equal T c__law_is_integer m__law_equal b__law_equal, m__law_equal, k__law_equal, b__law_equal⟩
  exact ok_law F_law T c__law_stream c__law_next c__law_weights c_apportioned c__law_deviation c__law_allocations c__law_equal c__law_apportioned c_is_nearest c_deviation
theorem walk {l : PySem.W.OpenLaw} {q : Program} {loose : List Str} {XP : (Str → Option Value) → Heap → Prop} {YP : World → Heap → Prop} {d : DefRec} {K : Params → PySem.W.Frag} (hn : l.most = some 63) (hdf : d.params.defaults = [])
    (hY : ∀ (w : World) (h : Heap), YP w h → (K w.params).In h)
    (F : ∀ (w : World) (mg : Str → Option Value) (fa : Addr) (h : Heap), (K w.params).In h → h.Ns mainGlobals mg → mg d.name = some (.ref fa) →
      ∃ fd : FuncData, (∀ (s : Shared) (u : Value), BindsTo s fd ⟨[u], []⟩ [("script", u)]) ∧ ∀ base : Heap, (K w.params).In base → base.Ns mainGlobals mg → FnOk l.prog w (K w.params) mg base CX0 11 fa fd ["script"] (spLaw (K w.params))) :
    PySem.W.WalkO q loose XP YP l.row.toRowW d [] (fun f vs => PySem.call f vs) :=
  L2.walk_of (n := 63) (k := 11) (x := "script") (CX := fun _ => CX0) (sp := fun w => spLaw (K w.params)) hn (by decide) hdf ⟨rfl, by decide, by decide⟩ hY F (fun _ _ a ns hl _ hS => ⟨a, ns, rfl, hS, hl, fun _ => rfl⟩) fun _ _ _ _ _ z => z
end W
open PySem PySem.W PyProof.Rows
set_option maxRecDepth 100000 in
set_option maxHeartbeats 0 in
theorem PySem.Challenge.cw_leastmoved_k04_whole_nearest_allocations_holds : PySem.Challenge.rw_leastmoved_k04_whole_nearest_allocations.Holds := by
  w_on; o_law; k_head; (case hw => w_witness2)
  k_fill
  refine W.walk (l := PySem.Challenge.rw_leastmoved_k04_whole_nearest_allocations) rfl rfl (fun w h Y => PySem.W.kIn_of Y) ?F
  case F =>
    intro w mg fa h KX G hmg
    refine' W.all_mk KX G hmg ?a_is_integer ?l_is_integer ?o_is_integer ?k_is_integer ?a_are_integers ?l_are_integers ?o_are_integers ?k_are_integers ?a_require ?l_require ?o_require ?k_require ?a_in_lowest_terms ?l_in_lowest_terms ?o_in_lowest_terms ?k_in_lowest_terms ?a_is_bounded_allocation ?l_is_bounded_allocation ?o_is_bounded_allocation ?k_is_bounded_allocation ?a_are_weights ?l_are_weights ?o_are_weights ?k_are_weights ?a_check_weighted ?l_check_weighted ?o_check_weighted ?k_check_weighted ?a_rests_of ?l_rests_of ?o_rests_of ?k_rests_of ?a_by_largest_rests ?l_by_largest_rests ?o_by_largest_rests ?k_by_largest_rests ?a_apportioned ?l_apportioned ?o_apportioned ?k_apportioned ?a_surpluses ?l_surpluses ?o_surpluses ?k_surpluses ?a_deviation ?l_deviation ?o_deviation ?k_deviation ?a_is_nearest ?l_is_nearest ?o_is_nearest ?k_is_nearest ?a__law_stream ?l__law_stream ?o__law_stream ?k__law_stream ?a__law_next ?l__law_next ?o__law_next ?k__law_next ?a__law_is_integer ?l__law_is_integer ?o__law_is_integer ?k__law_is_integer ?a__law_gcd ?l__law_gcd ?o__law_gcd ?k__law_gcd ?a__law_low ?l__law_low ?o__law_low ?k__law_low ?a__law_equal ?l__law_equal ?o__law_equal ?k__law_equal ?a__law_pick ?l__law_pick ?o__law_pick ?k__law_pick ?a__law_allocations ?l__law_allocations ?o__law_allocations ?k__law_allocations ?a__law_weights ?l__law_weights ?o__law_weights ?k__law_weights ?a__law_deviation ?l__law_deviation ?o__law_deviation ?k__law_deviation ?a__law_apportioned ?l__law_apportioned ?o__law_apportioned ?k__law_apportioned ?a_law ?l_law ?o_law ?k_law ?z_abs ?z_all ?z_bool ?z_enumerate ?z_int ?z_isinstance ?z_len ?z_list ?z_max ?z_min ?z_range ?z_sorted ?z_str ?z_sum ?z_tuple ?z_zip ?g_MOST_VARIANTS ?g_MOST_BUCKETS ?g_GREATEST_WEIGHT ?i_gcd
    (case a_is_integer => k_is); (case l_is_integer => k_is); (case o_is_integer => k_is); (case k_is_integer => k_is)
    (case a_are_integers => k_is); (case l_are_integers => k_is); (case o_are_integers => k_is); (case k_are_integers => k_is)
    (case a_require => k_is); (case l_require => k_is); (case o_require => k_is); (case k_require => k_is)
    (case a_in_lowest_terms => k_is); (case l_in_lowest_terms => k_is); (case o_in_lowest_terms => k_is); (case k_in_lowest_terms => k_is)
    (case a_is_bounded_allocation => k_is); (case l_is_bounded_allocation => k_is); (case o_is_bounded_allocation => k_is); (case k_is_bounded_allocation => k_is)
    (case a_are_weights => k_is); (case l_are_weights => k_is); (case o_are_weights => k_is); (case k_are_weights => k_is)
    (case a_check_weighted => k_is); (case l_check_weighted => k_is); (case o_check_weighted => k_is); (case k_check_weighted => k_is)
    (case a_rests_of => k_is); (case l_rests_of => k_is); (case o_rests_of => k_is); (case k_rests_of => k_is)
    (case a_by_largest_rests => k_is); (case l_by_largest_rests => k_is); (case o_by_largest_rests => k_is); (case k_by_largest_rests => k_is)
    (case a_apportioned => k_is); (case l_apportioned => k_is); (case o_apportioned => k_is); (case k_apportioned => k_is)
    (case a_surpluses => k_is); (case l_surpluses => k_is); (case o_surpluses => k_is); (case k_surpluses => k_is)
    (case a_deviation => k_is); (case l_deviation => k_is); (case o_deviation => k_is); (case k_deviation => k_is)
    (case a_is_nearest => k_is); (case l_is_nearest => k_is); (case o_is_nearest => k_is); (case k_is_nearest => k_is)
    (case a__law_stream => k_is); (case l__law_stream => k_is); (case o__law_stream => k_is); (case k__law_stream => k_is)
    (case a__law_next => k_is); (case l__law_next => k_is); (case o__law_next => k_is); (case k__law_next => k_is)
    (case a__law_is_integer => k_is); (case l__law_is_integer => k_is); (case o__law_is_integer => k_is); (case k__law_is_integer => k_is)
    (case a__law_gcd => k_is); (case l__law_gcd => k_is); (case o__law_gcd => k_is); (case k__law_gcd => k_is)
    (case a__law_low => k_is); (case l__law_low => k_is); (case o__law_low => k_is); (case k__law_low => k_is)
    (case a__law_equal => k_is); (case l__law_equal => k_is); (case o__law_equal => k_is); (case k__law_equal => k_is)
    (case a__law_pick => k_is); (case l__law_pick => k_is); (case o__law_pick => k_is); (case k__law_pick => k_is)
    (case a__law_allocations => k_is); (case l__law_allocations => k_is); (case o__law_allocations => k_is); (case k__law_allocations => k_is)
    (case a__law_weights => k_is); (case l__law_weights => k_is); (case o__law_weights => k_is); (case k__law_weights => k_is)
    (case a__law_deviation => k_is); (case l__law_deviation => k_is); (case o__law_deviation => k_is); (case k__law_deviation => k_is)
    (case a__law_apportioned => k_is); (case l__law_apportioned => k_is); (case o__law_apportioned => k_is); (case k__law_apportioned => k_is)
    (case a_law => k_is); (case l_law => k_is); (case o_law => k_is); (case k_law => k_is)
    (case z_abs => k_is)
    (case z_all => k_is)
    (case z_bool => k_is)
    (case z_enumerate => k_is)
    (case z_int => k_is)
    (case z_isinstance => k_is)
    (case z_len => k_is)
    (case z_list => k_is)
    (case z_max => k_is)
    (case z_min => k_is)
    (case z_range => k_is)
    (case z_sorted => k_is)
    (case z_str => k_is)
    (case z_sum => k_is)
    (case z_tuple => k_is)
    (case z_zip => k_is)
    (case g_MOST_VARIANTS => k_is)
    (case g_MOST_BUCKETS => k_is)
    (case g_GREATEST_WEIGHT => k_is)
    (case i_gcd => k_is)
