import PyProof.Rows.All
import Wide.All
import OpenK.AllK
import Wide.FinOn
import HandS.ForMost
import HandS.TupAny
import HandS.Zip
import HandS.IsInst
import HandS.Walk
import HandS.SortInts
import HandS.Strs
import HandS.SetFor
import KE.GoesMore
import KE.GoesEnum
import HandS.SortKw
import PyProof.WalksMore
import HandS.Evl
import HandS.Conv
import PyProof.Draws
import KE.KItemsList
import HandS.Gcd
import KE.KMathGC
import HandS.Deep
import HandS.Wide
import HandS.TupLe
import PyProof.ListNew
import HandS.GenList
import HandS.Sort
import HandS.FStr
import KE.KExcSuper
import KE.KSuper
import HandS.ExcOwn
import HandS.ExcField
import HandS.TupMul
import HandS.Style
import PyProof.CallType
import KE.SortData
import KE.SortLaws
import KE.SortKeyHeap
import KE.DataMinMax
import PyProof.Claim2Refuses
import PySem.Challenge.RW_leastmoved_k48_whole_calm_histories
set_option Elab.async false
set_option linter.all false
set_option maxRecDepth 100000
set_option maxHeartbeats 4000000
namespace Lm
open PySem PySem.Spec PyProof.Rows L2

/-- what is around: the written part, and (perhaps) the stream with the script's copy -/
structure Ct where
  K : PySem.W.Frag
  so : Option (Addr × Addr)
def okA (c : Ct) (a : Addr) : Prop := ∀ st l, c.so = some (st, l) → a ≠ st
/-- the stream at st: a copy of the script at l, a cell, a place -/
def Str1 (K : PySem.W.Frag) (st l : Addr) (H : Hp) : Prop :=
  ∃ (ns : List Int) (x k : Int), H st = some (.lst [.ref l, .int x, .int k]) ∧ H l = some (.lst (ns.map V.int)) ∧ l ≠ st ∧ 0 ≤ k
def Ji (c : Ct) (H : Hp) : Prop := ∀ st l, c.so = some (st, l) → Str1 c.K st l H
def Rr (c : Ct) (H H' : Hp) : Prop := (∀ a o, okA c a → H a = some o → H' a = some o) ∧ (Ji c H → Ji c H')
variable {c : Ct} {H H' H0 H1 H2 H3 : Hp}
theorem Rr.rf : Rr c H H := ⟨fun _ _ _ h => h, fun h => h⟩
theorem Rr.tr (a : Rr c H H1) (b : Rr c H1 H2) : Rr c H H2 := ⟨fun x o k h => b.1 x o k (a.1 x o k h), fun h => b.2 (a.2 h)⟩
theorem Ji.same (j : Ji c H) (e : Same H H') : Ji c H' := fun st l h => by
  obtain ⟨ns, x, k, h1, h2, h3, h4⟩ := j st l h
  exact ⟨ns, x, k, e _ _ h1, e _ _ h2, h3, h4⟩
theorem Rr.same (e : Same H H') : Rr c H H' := ⟨fun x o _ h => e x o h, fun j => j.same e⟩
theorem okA.fresh (j : Ji c H) {p : Addr} (h : H p = none) : okA c p := fun st l e z => by
  obtain ⟨ns, x, k, h1, _⟩ := j st l e
  rw [z, h1] at h
  cases h
theorem okA.tup (j : Ji c H) {p : Addr} {o : HO} (h : H p = some o) (n : ∀ xs, o ≠ .lst xs) : okA c p := fun st l e z => by
  obtain ⟨ns, x, k, h1, _⟩ := j st l e
  rw [z, h1] at h
  exact n _ (Option.some.inj h).symm
theorem Rr.back (r : Rr c H H') (j : Ji c H) {p : Addr} (h : H' p = none) : H p = none := by
  cases q : H p with
  | none => rfl
  | some o =>
    have k : okA c p := fun st l e z => by
      obtain ⟨ns, x, k, h1, _⟩ := r.2 j st l e
      rw [z, h1] at h
      cases h
    rw [r.1 p o k q] at h
    cases h
/-- a tuple (one that has no dict of its own) -/
def TpN (K : PySem.W.Frag) (H : Hp) (a : Addr) (xs : List V) : Prop :=
  (∃ o : Obj, o.dict = none ∧ H a = some (.frz o (.tup xs))) ∨
    ∃ (o : Obj) (its : Array Value) (n : Nat), K.lookup a = some o ∧ o.cls = .type "tuple" ∧ o.dict = none ∧ o.data = .seq its n ∧ its.size ≤ sizeLine ∧ Vals xs its.toList
theorem TpN.sq {K : PySem.W.Frag} {a : Addr} {xs : List V} (h : TpN K H a xs) : SqT K H a xs := by
  rcases h with ⟨o, _, h⟩ | ⟨o, its, n, h1, h2, _, h3, h4, h5⟩
  · exact .inl (.inr ⟨o, h⟩)
  · exact .inr ⟨o, its, n, h1, h2, h3, h4, h5⟩
theorem Rr.tup (r : Rr c H H') (j : Ji c H) {a : Addr} {xs : List V} (h : TpN c.K H a xs) : TpN c.K H' a xs := by
  rcases h with ⟨o, q, h⟩ | h
  · exact .inl ⟨o, q, r.1 _ _ (okA.tup j h (fun _ => by simp)) h⟩
  · exact .inr h
theorem Rr.lst (r : Rr c H H') {a : Addr} {xs : List V} (k : okA c a) (h : SqL c.K H a xs) : SqL c.K H' a xs := by
  rcases h with (h | ⟨o, h⟩) | h
  · exact .inl (.inl (r.1 _ _ k h))
  · exact .inl (.inr ⟨o, r.1 _ _ k h⟩)
  · exact .inr h

/-! ### values as data: ints, texts, tuples; lists whose addresses are not the stream's -/
mutual
inductive Bo (c : Ct) (H : Hp) : V → PyData → Prop
  | non : Bo c H .non .none
  | bl (b : Bool) : Bo c H (.bl b) (.bool b)
  | int (i : Int) : Bo c H (.int i) (.int i)
  | str (x : Str) : Bo c H (.str x) (.str x)
  | lst {a : Addr} {xs : List V} {ds : List PyData} : okA c a → SqL c.K H a xs → BoAll c H xs ds → Bo c H (.ref a) (.list ds)
  | tup {a : Addr} {xs : List V} {ds : List PyData} : TpN c.K H a xs → BoAll c H xs ds → Bo c H (.ref a) (.tuple ds)
inductive BoAll (c : Ct) (H : Hp) : List V → List PyData → Prop
  | nil : BoAll c H [] []
  | cons {v : V} {vs : List V} {d : PyData} {ds : List PyData} : Bo c H v d → BoAll c H vs ds → BoAll c H (v :: vs) (d :: ds)
end
mutual
theorem Bo.up (h : ∀ a xs, TpN c.K H a xs → TpN c.K H' a xs) (g : ∀ a xs, okA c a → SqL c.K H a xs → SqL c.K H' a xs) : ∀ {v : V} {d : PyData}, Bo c H v d → Bo c H' v d
  | _, _, .non => .non
  | _, _, .bl b => .bl b
  | _, _, .int b => .int b
  | _, _, .str b => .str b
  | _, _, .lst k s a => .lst k (g _ _ k s) (BoAll.up h g a)
  | _, _, .tup s a => .tup (h _ _ s) (BoAll.up h g a)
theorem BoAll.up (h : ∀ a xs, TpN c.K H a xs → TpN c.K H' a xs) (g : ∀ a xs, okA c a → SqL c.K H a xs → SqL c.K H' a xs) : ∀ {v : List V} {d : List PyData}, BoAll c H v d → BoAll c H' v d
  | _, _, .nil => .nil
  | _, _, .cons a b => .cons (Bo.up h g a) (BoAll.up h g b)
end
theorem Bo.mono (j : Ji c H) (r : Rr c H H') {v : V} {d : PyData} (h : Bo c H v d) : Bo c H' v d := h.up (fun _ _ s => r.tup j s) (fun _ _ k s => r.lst k s)
theorem BoAll.mono (j : Ji c H) (r : Rr c H H') {v : List V} {d : List PyData} (h : BoAll c H v d) : BoAll c H' v d := h.up (fun _ _ s => r.tup j s) (fun _ _ k s => r.lst k s)
theorem sqT_same {K : PySem.W.Frag} (e : Same H H') {a : Addr} {xs : List V} (h : TpN K H a xs) : TpN K H' a xs := by
  rcases h with ⟨o, q, h⟩ | h
  · exact .inl ⟨o, q, e _ _ h⟩
  · exact .inr h
theorem Bo.same (e : Same H H') {v : V} {d : PyData} (h : Bo c H v d) : Bo c H' v d := h.up (fun _ _ s => sqT_same e s) (fun _ _ k s => e.seq s)
theorem BoAll.same (e : Same H H') {v : List V} {d : List PyData} (h : BoAll c H v d) : BoAll c H' v d := h.up (fun _ _ s => sqT_same e s) (fun _ _ k s => e.seq s)
theorem BoAll.len : ∀ {v : List V} {d : List PyData}, BoAll c H v d → v.length = d.length
  | _, _, .nil => rfl
  | _, _, .cons _ b => by simp [BoAll.len b]
theorem BoAll.get : ∀ {v : List V} {d : List PyData} {i : Nat} {x : V}, BoAll c H v d → v[i]? = some x → ∃ e, d[i]? = some e ∧ Bo c H x e
  | _, _, _, _, .nil, h => by simp at h
  | _, _, 0, x, .cons a b, h => by
    have e : _ = x := Option.some.inj h
    subst e
    exact ⟨_, rfl, a⟩
  | _, _, i + 1, x, .cons a b, h => BoAll.get (i := i) b (by simpa using h)
theorem BoAll.gets : ∀ {v : List V} {d : List PyData} {i : Nat} {e : PyData}, BoAll c H v d → d[i]? = some e → ∃ x, v[i]? = some x ∧ Bo c H x e
  | _, _, _, _, .nil, h => by simp at h
  | _, _, 0, x, .cons a b, h => by
    have e : _ = x := Option.some.inj h
    subst e
    exact ⟨_, rfl, a⟩
  | _, _, i + 1, x, .cons a b, h => BoAll.gets (i := i) b (by simpa using h)
theorem BoAll.app : ∀ {v w : List V} {d e : List PyData}, BoAll c H v d → BoAll c H w e → BoAll c H (v ++ w) (d ++ e)
  | _, _, _, _, .nil, b => b
  | _, _, _, _, .cons a r, b => .cons a (BoAll.app r b)
theorem BoAll.set : ∀ {v : List V} {d : List PyData} {i : Nat} {x : V} {e : PyData}, BoAll c H v d → Bo c H x e → BoAll c H (v.set i x) (d.set i e)
  | _, _, _, _, _, .nil, b => .nil
  | _, _, 0, _, _, .cons a r, b => .cons b r
  | _, _, i + 1, _, _, .cons a r, b => .cons a (BoAll.set r b)
theorem BoAll.take : ∀ {v : List V} {d : List PyData} (i : Nat), BoAll c H v d → BoAll c H (v.take i) (d.take i)
  | _, _, 0, _ => .nil
  | _, _, i + 1, .nil => .nil
  | _, _, i + 1, .cons a b => .cons a (BoAll.take i b)
theorem BoAll.drop : ∀ {v : List V} {d : List PyData} (i : Nat), BoAll c H v d → BoAll c H (v.drop i) (d.drop i)
  | _, _, 0, h => h
  | _, _, i + 1, .nil => .nil
  | _, _, i + 1, .cons a b => BoAll.drop i b
theorem Bo.int' {v : V} {i : Int} (h : Bo c H v (.int i)) : v = .int i := by cases h; rfl
theorem Bo.bl' {v : V} {i : Bool} (h : Bo c H v (.bool i)) : v = .bl i := by cases h; rfl
theorem Bo.non' {v : V} (h : Bo c H v .none) : v = .non := by cases h; rfl
theorem Bo.tup' {v : V} {ds : List PyData} (h : Bo c H v (.tuple ds)) : ∃ a xs, v = .ref a ∧ TpN c.K H a xs ∧ BoAll c H xs ds := by cases h with | tup s a => exact ⟨_, _, rfl, s, a⟩
theorem Bo.lst' {v : V} {ds : List PyData} (h : Bo c H v (.list ds)) : ∃ a xs, v = .ref a ∧ okA c a ∧ SqL c.K H a xs ∧ BoAll c H xs ds := by cases h with | lst k s a => exact ⟨_, _, rfl, k, s, a⟩
theorem BoAll.ints : ∀ {v : List V} {ns : List Int}, BoAll c H v (ns.map PyData.int) → v = ns.map V.int
  | v, [], h => by cases h; rfl
  | v, n :: ns, h => by
    cases h with
    | cons a b => rw [a.int', BoAll.ints b]; rfl
theorem BoAll.ofInts : ∀ (ns : List Int), BoAll c H (ns.map V.int) (ns.map PyData.int)
  | [] => .nil
  | n :: ns => .cons (.int n) (BoAll.ofInts ns)
theorem BoAll.bools : ∀ {v : List V} {ns : List Bool}, BoAll c H v (ns.map PyData.bool) → v = ns.map V.bl
  | v, [], h => by cases h; rfl
  | v, n :: ns, h => by
    cases h with
    | cons a b => rw [a.bl', BoAll.bools b]; rfl
mutual
theorem Bo.dp : ∀ {v : V} {d : PyData}, Bo c H v d → Dp c.K H v d
  | _, _, .non => .non
  | _, _, .bl b => .bl b
  | _, _, .int b => .int b
  | _, _, .str b => .str b
  | _, _, .lst _ s a => .lst s (BoAll.dp a)
  | _, _, .tup s a => .tup s.sq (BoAll.dp a)
theorem BoAll.dp : ∀ {v : List V} {d : List PyData}, BoAll c H v d → DpAll c.K H v d
  | _, _, .nil => .nil
  | _, _, .cons a b => .cons (Bo.dp a) (BoAll.dp b)
end
/-! no stream, no care -/
mutual
theorem Bo.pure : ∀ {v : V} {d : PyData}, Bo c H v d → Bo ⟨c.K, none⟩ H v d
  | _, _, .non => .non
  | _, _, .bl b => .bl b
  | _, _, .int b => .int b
  | _, _, .str b => .str b
  | _, _, .lst _ s a => .lst (fun _ _ e => nomatch e) s (BoAll.pure a)
  | _, _, .tup s a => .tup s (BoAll.pure a)
theorem BoAll.pure : ∀ {v : List V} {d : List PyData}, BoAll c H v d → BoAll ⟨c.K, none⟩ H v d
  | _, _, .nil => .nil
  | _, _, .cons a b => .cons (Bo.pure a) (BoAll.pure b)
end
/-! data without lists -/
mutual
def flatD : PyData → Bool
  | .none => true
  | .bool _ => true
  | .int _ => true
  | .str _ => true
  | .tuple ds => flatAll ds
  | _ => false
def flatAll : List PyData → Bool
  | [] => true
  | d :: ds => flatD d && flatAll ds
end
theorem flatAll_ints (ns : List Int) : flatAll (ns.map PyData.int) = true := by
  induction ns with
  | nil => rfl
  | cons n ns ih =>
    show (flatD (.int n) && flatAll (ns.map PyData.int)) = true
    rw [ih]
    rfl
theorem flatAll_mem {ds : List PyData} (h : ∀ d ∈ ds, flatD d = true) : flatAll ds = true := by
  induction ds with
  | nil => rfl
  | cons d ds ih =>
    show (flatD d && flatAll ds) = true
    rw [h d (by simp), ih fun e he => h e (by simp [he])]
    rfl
mutual
theorem Bo.flat {c' : Ct} (hk : c'.K = c.K) : ∀ {v : V} {d : PyData}, flatD d = true → Bo c H v d → Bo c' H v d
  | _, _, _, .non => .non
  | _, _, _, .bl b => .bl b
  | _, _, _, .int b => .int b
  | _, _, _, .str b => .str b
  | _, _, q, .lst _ s a => by simp [flatD] at q
  | _, _, q, .tup s a => .tup (by rw [hk]; exact s) (BoAll.flat hk (by simpa [flatD] using q) a)
theorem BoAll.flat {c' : Ct} (hk : c'.K = c.K) : ∀ {v : List V} {d : List PyData}, flatAll d = true → BoAll c H v d → BoAll c' H v d
  | _, _, _, .nil => .nil
  | _, _, q, .cons a b => by
    have q' : (flatD _ && flatAll _) = true := q
    rw [Bool.and_eq_true] at q'
    exact .cons (Bo.flat hk q'.1 a) (BoAll.flat hk q'.2 b)
end

/-! ### the heap without some addresses -/
def mns (H : Hp) (O : List Addr) : Hp := fun a => if a ∈ O then none else H a
theorem mns_in {O : List Addr} {a : Addr} (h : a ∈ O) : mns H O a = none := if_pos h
theorem mns_out {O : List Addr} {a : Addr} (h : a ∉ O) : mns H O a = H a := if_neg h
theorem mns_same {O : List Addr} : Same (mns H O) H := fun a o h => by
  by_cases q : a ∈ O
  · rw [mns_in q] at h; cases h
  · rw [mns_out q] at h; exact h
theorem mns_some {O : List Addr} {a : Addr} {o : HO} (h : mns H O a = some o) : a ∉ O ∧ H a = some o := by
  by_cases q : a ∈ O
  · rw [mns_in q] at h; cases h
  · rw [mns_out q] at h; exact ⟨q, h⟩
theorem mns_sub {O O' : List Addr} (s : ∀ a, a ∈ O' → a ∈ O) : Same (mns H O) (mns H O') := fun a o h => by
  obtain ⟨q, h⟩ := mns_some h
  rw [mns_out (fun z => q (s a z))]
  exact h
theorem mns_nil : mns H [] = H := by
  funext a
  exact mns_out (by simp)
theorem Rr.mns {O : List Addr} (r : Rr c H H') (j : Ji c (mns H O)) (q : ∀ a ∈ O, okA c a) : Rr c (mns H O) (mns H' O) := by
  refine ⟨fun a o k h => ?_, fun _ st l e => ?_⟩
  · obtain ⟨n, h⟩ := mns_some h
    rw [mns_out n]
    exact r.1 a o k h
  · obtain ⟨ns, x, k, h1, h2, h3, h4⟩ := j st l e
    obtain ⟨n1, h1⟩ := mns_some h1
    obtain ⟨n2, h2⟩ := mns_some h2
    have jH : Ji c H := j.same mns_same
    obtain ⟨ns', x', k', g1, g2, g3, g4⟩ := r.2 jH st l e
    refine ⟨ns', x', k', ?_, ?_, g3, g4⟩
    · rw [mns_out n1]; exact g1
    · rw [mns_out n2]; exact g2
end Lm


namespace Lm
open PySem PySem.Spec PyProof.Rows L2
variable {c : Ct} {H H' H0 H1 H2 H3 : Hp} {O : List Addr}

/-! flat data leans on tuples alone -/
mutual
theorem Bo.flatTo {c' : Ct} (h : ∀ a xs, TpN c.K H a xs → TpN c'.K H' a xs) : ∀ {v : V} {d : PyData}, flatD d = true → Bo c H v d → Bo c' H' v d
  | _, _, _, .non => .non
  | _, _, _, .bl b => .bl b
  | _, _, _, .int b => .int b
  | _, _, _, .str b => .str b
  | _, _, q, .lst _ s a => by simp [flatD] at q
  | _, _, q, .tup s a => .tup (h _ _ s) (BoAll.flatTo h (by simpa [flatD] using q) a)
theorem BoAll.flatTo {c' : Ct} (h : ∀ a xs, TpN c.K H a xs → TpN c'.K H' a xs) : ∀ {v : List V} {d : List PyData}, flatAll d = true → BoAll c H v d → BoAll c' H' v d
  | _, _, _, .nil => .nil
  | _, _, q, .cons a b => by
    have q' : (flatD _ && flatAll _) = true := q
    rw [Bool.and_eq_true] at q'
    exact .cons (Bo.flatTo h q'.1 a) (BoAll.flatTo h q'.2 b)
end
/-- what may be written -/
def OwnU : HO → Prop
  | .lst _ => True
  | .dK _ => True
  | .dT _ => True
  | .set _ _ => True
  | _ => False
theorem sqT_mns {K : PySem.W.Frag} (hO : ∀ a ∈ O, ∃ u, H a = some u ∧ OwnU u) {a : Addr} {xs : List V} (h : TpN K H a xs) : TpN K (mns H O) a xs := by
  have n : ∀ u, H a = some u → ¬ OwnU u → mns H O a = some u := fun u e k => by
    have : a ∉ O := fun z => by
      obtain ⟨y, q, w⟩ := hO a z
      rw [q] at e
      exact k (Option.some.inj e ▸ w)
    rw [mns_out this]; exact e
  rcases h with ⟨o, q, h⟩ | h
  · exact .inl ⟨o, q, n _ h fun w => w⟩
  · exact .inr h
theorem sqT_upd {K : PySem.W.Frag} {p : Addr} {zs : List V} {o : HO} (hp : H p = some (.lst zs)) {a : Addr} {xs : List V} (h : TpN K H a xs) : TpN K (upd H p o) a xs := by
  have n : ∀ u, H a = some u → (∀ ys, u ≠ .lst ys) → upd H p o a = some u := fun u e k => by
    have : a ≠ p := fun z => by
      rw [z, hp] at e
      exact k zs (Option.some.inj e).symm
    rw [upd_ne this]; exact e
  rcases h with ⟨o, q, h⟩ | h
  · exact .inl ⟨o, q, n _ h fun _ => by simp⟩
  · exact .inr h

/-! ### lists of one's own: the addresses that may be written -/
mutual
inductive Fo (c : Ct) (H : Hp) : V → PyData → List Addr → Prop
  | leaf {v : V} {d : PyData} : flatD d = true → Bo c H v d → Fo c H v d []
  | lst {a : Addr} {xs : List V} {ds : List PyData} {fp : List Addr} : H a = some (.lst xs) → FoAll c H xs ds fp → Fo c H (.ref a) (.list ds) (a :: fp)
inductive FoAll (c : Ct) (H : Hp) : List V → List PyData → List Addr → Prop
  | nil : FoAll c H [] [] []
  | cons {v : V} {vs : List V} {d : PyData} {ds : List PyData} {f fs : List Addr} : Fo c H v d f → FoAll c H vs ds fs → FoAll c H (v :: vs) (d :: ds) (f ++ fs)
end
mutual
theorem Fo.up (h : ∀ a xs, TpN c.K H a xs → TpN c.K H' a xs) : ∀ {v : V} {d : PyData} {fp : List Addr}, (∀ a ∈ fp, ∀ o, H a = some o → H' a = some o) → Fo c H v d fp → Fo c H' v d fp
  | _, _, _, _, .leaf q b => .leaf q (b.flatTo h q)
  | _, _, _, k, .lst e a => .lst (k _ (by simp) _ e) (FoAll.up h (fun b hb => k b (by simp [hb])) a)
theorem FoAll.up (h : ∀ a xs, TpN c.K H a xs → TpN c.K H' a xs) : ∀ {v : List V} {d : List PyData} {fp : List Addr}, (∀ a ∈ fp, ∀ o, H a = some o → H' a = some o) → FoAll c H v d fp → FoAll c H' v d fp
  | _, _, _, _, .nil => .nil
  | _, _, _, k, .cons a b => .cons (Fo.up h (fun x hx => k x (by simp [hx])) a) (FoAll.up h (fun x hx => k x (by simp [hx])) b)
end
mutual
theorem Fo.bo : ∀ {v : V} {d : PyData} {fp : List Addr}, (∀ a ∈ fp, okA c a) → Fo c H v d fp → Bo c H v d
  | _, _, _, _, .leaf _ b => b
  | _, _, _, k, .lst e a => .lst (k _ (by simp)) (.inl (.inl e)) (FoAll.bo (fun b hb => k b (by simp [hb])) a)
theorem FoAll.bo : ∀ {v : List V} {d : List PyData} {fp : List Addr}, (∀ a ∈ fp, okA c a) → FoAll c H v d fp → BoAll c H v d
  | _, _, _, _, .nil => .nil
  | _, _, _, k, .cons a b => .cons (Fo.bo (fun x hx => k x (by simp [hx])) a) (FoAll.bo (fun x hx => k x (by simp [hx])) b)
end
theorem FoAll.leaves : ∀ {v : List V} {d : List PyData}, flatAll d = true → BoAll c H v d → FoAll c H v d []
  | _, _, _, .nil => .nil
  | _, _, q, .cons a b => by
    have q' : (flatD _ && flatAll _) = true := q
    rw [Bool.and_eq_true] at q'
    exact .cons (f := []) (fs := []) (.leaf q'.1 a) (FoAll.leaves q'.2 b)
mutual
theorem Fo.isL : ∀ {v : V} {d : PyData} {fp : List Addr}, Fo c H v d fp → ∀ a ∈ fp, ∃ xs, H a = some (.lst xs)
  | _, _, _, .leaf _ _, a, h => by simp at h
  | _, _, _, .lst e f, a, h => by
    rcases List.mem_cons.mp h with q | q
    · rw [q]; exact ⟨_, e⟩
    · exact FoAll.isL f a q
theorem FoAll.isL : ∀ {v : List V} {d : List PyData} {fp : List Addr}, FoAll c H v d fp → ∀ a ∈ fp, ∃ xs, H a = some (.lst xs)
  | _, _, _, .nil, a, h => by simp at h
  | _, _, _, .cons e f, a, h => by
    rcases List.mem_append.mp h with q | q
    · exact Fo.isL e a q
    · exact FoAll.isL f a q
end
theorem FoAll.app : ∀ {v w : List V} {d e : List PyData} {f g : List Addr}, FoAll c H v d f → FoAll c H w e g → FoAll c H (v ++ w) (d ++ e) (f ++ g)
  | _, _, _, _, _, _, .nil, b => b
  | _, _, _, _, _, _, .cons a r, b => by
    rw [List.append_assoc]
    exact .cons a (FoAll.app r b)
/-- a flat list of one's own -/
theorem Fo.list' {v : V} {ds : List PyData} {fp : List Addr} (h : Fo c H v (.list ds) fp) : ∃ a xs f, v = .ref a ∧ fp = a :: f ∧ H a = some (.lst xs) ∧ FoAll c H xs ds f := by
  cases h with
  | leaf q _ => simp [flatD] at q
  | lst e a => exact ⟨_, _, _, rfl, rfl, e, a⟩
theorem FoAll.flat0 : ∀ {v : List V} {d : List PyData} {f : List Addr}, flatAll d = true → FoAll c H v d f → f = [] ∧ BoAll c H v d
  | _, _, _, _, .nil => ⟨rfl, .nil⟩
  | _, _, _, q, .cons a b => by
    have q' : (flatD _ && flatAll _) = true := q
    rw [Bool.and_eq_true] at q'
    obtain ⟨e1, b1⟩ := FoAll.flat0 q'.2 b
    cases a with
    | leaf _ x => exact ⟨by rw [e1]; rfl, .cons x b1⟩
    | lst _ _ => simp [flatD] at q'

/-! ### what the slots hold -/
inductive Rs where
  /-- a value that will not change -/
  | v (d : PyData)
  /-- a list of one's own -/
  | o (d : PyData)
  /-- this very value -/
  | r (x : V)
  /-- a dict or set of one's own -/
  | d (u : HO)
  /-- a list of one's own whose items stay -/
  | w (ds : List PyData)
def RepO (c : Ct) (O : List Addr) (H : Hp) (x : Option V) : Option Rs → List Addr → Prop
  | none, fp => fp = []
  | some (.v d), fp => fp = [] ∧ ∃ v, x = some v ∧ Bo c (mns H O) v d
  | some (.o d), fp => ∃ v, x = some v ∧ Fo c H v d fp
  | some (.r y), fp => fp = [] ∧ x = some y
  | some (.d u), fp => ∃ a, fp = [a] ∧ x = some (.ref a) ∧ H a = some u ∧ OwnU u
  | some (.w ds), fp => ∃ a xs, fp = [a] ∧ x = some (.ref a) ∧ H a = some (.lst xs) ∧ BoAll c (mns H O) xs ds
inductive Reps (c : Ct) (O : List Addr) (H : Hp) : L2.St → List (Option Rs) → List Addr → Prop
  | nil : Reps c O H [] [] []
  | cons {x : Option V} {s : Option Rs} {f fs : List Addr} {σ : L2.St} {Γ : List (Option Rs)} : RepO c O H x s f → Reps c O H σ Γ fs → Reps c O H (x :: σ) (s :: Γ) (f ++ fs)
theorem Reps.len {σ : L2.St} {Γ : List (Option Rs)} {fp : List Addr} (h : Reps c O H σ Γ fp) : σ.length = Γ.length := by
  induction h with
  | nil => rfl
  | cons _ _ ih => simp [ih]
theorem Reps.map {O' : List Addr} {σ : L2.St} {Γ : List (Option Rs)} {fp : List Addr} (h : Reps c O H σ Γ fp) (k : ∀ x s f, (∀ a ∈ f, a ∈ fp) → RepO c O H x s f → RepO c O' H' x s f) : Reps c O' H' σ Γ fp := by
  induction h with
  | nil => exact .nil
  | cons a b ih => exact .cons (k _ _ _ (fun x hx => by simp [hx]) a) (ih fun x s f q => k x s f fun y hy => by simp [q y hy])
/-- the i-th slot, and how it is changed -/
theorem Reps.nth {σ : L2.St} {Γ : List (Option Rs)} {fp : List Addr} (h : Reps c O H σ Γ fp) : ∀ {i : Nat} {s : Option Rs}, Γ[i]? = some s →
    ∃ x f pre post, σ[i]? = some x ∧ RepO c O H x s f ∧ fp = pre ++ (f ++ post) ∧
      ∀ (O' : List Addr) (H' : Hp) (x' : Option V) (s' : Option Rs) (f' : List Addr), (∀ y t g, (∀ a ∈ g, a ∈ pre ++ post) → RepO c O H y t g → RepO c O' H' y t g) → RepO c O' H' x' s' f' → Reps c O' H' (σ.set i x') (Γ.set i s') (pre ++ (f' ++ post)) := by
  induction h with
  | nil => intro i s e; simp at e
  | cons a b ih =>
    rename_i x0 s0 f0 fs0 σ0 Γ0
    intro i s e
    cases i with
    | zero =>
      have e' : s0 = s := by simpa using e
      subst e'
      refine ⟨x0, f0, [], fs0, rfl, a, rfl, fun O' H' x' s' f' k r => ?_⟩
      show Reps c O' H' (x' :: σ0) (s' :: Γ0) (f' ++ fs0)
      exact .cons r (b.map fun y t g q z => k y t g (fun u hu => by simpa using q u hu) z)
    | succ i =>
      obtain ⟨x, f, pre, post, h1, h2, h3, h4⟩ := ih (i := i) (by simpa using e)
      refine ⟨x, f, f0 ++ pre, post, by simpa using h1, h2, by rw [h3]; simp, fun O' H' x' s' f' k r => ?_⟩
      have := h4 O' H' x' s' f' (fun y t g q z => k y t g (fun u hu => by have := q u hu; simp at this ⊢; rcases this with w | w <;> simp [w]) z) r
      rw [List.append_assoc]
      exact .cons (k _ _ _ (fun u hu => by simp [hu]) a) this

/-- the entry's heap H0, the addresses of one's own O, the heap H, the slots σ and what they hold -/
structure Env (c : Ct) (H0 : Hp) (O : List Addr) (H : Hp) (σ : L2.St) (Γ : List (Option Rs)) : Prop where
  r0 : Rr c H0 (mns H O)
  j : Ji c (mns H O)
  fr : ∀ a ∈ O, H0 a = none
  dm : ∀ a ∈ O, ∃ u, H a = some u ∧ OwnU u
  rep : ∃ fp, Reps c O H σ Γ fp ∧ fp.Nodup ∧ ∀ a ∈ fp, a ∈ O
variable {σ : L2.St} {Γ : List (Option Rs)}
theorem Env.jH (e : Env c H0 O H σ Γ) : Ji c H := e.j.same mns_same
theorem Env.okO (e : Env c H0 O H σ Γ) : ∀ a ∈ O, okA c a := fun a ha st l q z => by
  obtain ⟨ns, x, k, h1, _⟩ := e.j st l q
  rw [← z, mns_in ha] at h1
  cases h1
theorem Env.rH (e : Env c H0 O H σ Γ) : Rr c H0 H := e.r0.tr (Rr.same mns_same)
theorem Env.len (e : Env c H0 O H σ Γ) : σ.length = Γ.length := let ⟨_, h, _⟩ := e.rep; h.len
/-- the heap goes on -/
theorem Env.on (e : Env c H0 O H σ Γ) (r : Rr c H H') : Env c H0 O H' σ Γ := by
  have rm := r.mns e.j e.okO
  refine ⟨e.r0.tr rm, rm.2 e.j, e.fr, fun a ha => ?_, ?_⟩
  · obtain ⟨u, q, w⟩ := e.dm a ha
    exact ⟨u, r.1 a _ (e.okO a ha) q, w⟩
  · obtain ⟨fp, h, nd, sub⟩ := e.rep
    refine ⟨fp, h.map fun x s f q z => ?_, nd, sub⟩
    cases s with
    | none => exact z
    | some s =>
      cases s with
      | v d => exact ⟨z.1, z.2.elim fun v hv => ⟨v, hv.1, hv.2.mono e.j rm⟩⟩
      | o d => exact z.elim fun v hv => ⟨v, hv.1, hv.2.up (fun _ _ s => r.tup e.jH s) fun a ha o ho => r.1 a o (e.okO a (sub a (q a ha))) ho⟩
      | r y => exact z
      | d u => exact z.elim fun a ⟨w1, w2, w3, w4⟩ => ⟨a, w1, w2, r.1 a _ (e.okO a (sub a (q a (by rw [w1]; simp)))) w3, w4⟩
      | w ds => exact z.elim fun a ⟨xs, w1, w2, w3, w4⟩ => ⟨a, xs, w1, w2, r.1 a _ (e.okO a (sub a (q a (by rw [w1]; simp)))) w3, w4.mono e.j rm⟩
theorem Env.slotV (e : Env c H0 O H σ Γ) {i : Nat} {d : PyData} (h : Γ[i]? = some (some (.v d))) : ∃ v, σ[i]? = some (some v) ∧ Bo c (mns H O) v d := by
  obtain ⟨fp, hr, nd, sub⟩ := e.rep
  obtain ⟨x, f, pre, post, h1, h2, h3, h4⟩ := hr.nth h
  obtain ⟨v, hv, b⟩ := h2.2
  subst hv
  exact ⟨v, h1, b⟩
theorem Env.slotO (e : Env c H0 O H σ Γ) {i : Nat} {d : PyData} (h : Γ[i]? = some (some (.o d))) : ∃ v fp, σ[i]? = some (some v) ∧ Fo c H v d fp ∧ fp.Nodup ∧ ∀ a ∈ fp, a ∈ O := by
  obtain ⟨fp, hr, nd, sub⟩ := e.rep
  obtain ⟨x, f, pre, post, h1, h2, h3, h4⟩ := hr.nth h
  obtain ⟨v, hv, b⟩ := h2
  subst hv
  subst h3
  have n2 := (List.nodup_append.mp nd).2.1
  exact ⟨v, f, h1, b, (List.nodup_append.mp n2).1, fun a ha => sub a (by simp [ha])⟩
theorem Env.slotR (e : Env c H0 O H σ Γ) {i : Nat} {y : V} (h : Γ[i]? = some (some (.r y))) : σ[i]? = some (some y) := by
  obtain ⟨fp, hr, nd, sub⟩ := e.rep
  obtain ⟨x, f, pre, post, h1, h2, h3, h4⟩ := hr.nth h
  have hy : x = some y := h2.2
  rw [h1, hy]
/-- any slot is given another value that does not change -/
theorem Env.setV (e : Env c H0 O H σ Γ) {i : Nat} {v : V} {d : PyData} (b : Bo c (mns H O) v d) : Env c H0 O H (σ.set i (some v)) (Γ.set i (some (.v d))) := by
  refine ⟨e.r0, e.j, e.fr, e.dm, ?_⟩
  obtain ⟨fp, hr, nd, sub⟩ := e.rep
  by_cases hi : i < Γ.length
  · obtain ⟨x, f, pre, post, h1, h2, h3, h4⟩ := hr.nth (s := Γ[i]) (List.getElem?_eq_getElem hi)
    subst h3
    refine ⟨pre ++ ([] ++ post), h4 O H _ _ [] (fun _ _ _ _ z => z) ⟨rfl, v, rfl, b⟩, ?_, fun a ha => sub a ?_⟩
    · refine nd.sublist ?_
      simp
    · simp at ha ⊢
      rcases ha with q | q <;> simp [q]
  · have hs : ¬ i < σ.length := by rw [hr.len]; exact hi
    rw [List.set_eq_of_length_le (by omega), List.set_eq_of_length_le (by omega)]
    exact ⟨fp, hr, nd, sub⟩
theorem Env.setR (e : Env c H0 O H σ Γ) {i : Nat} {v : V} : Env c H0 O H (σ.set i (some v)) (Γ.set i (some (.r v))) := by
  refine ⟨e.r0, e.j, e.fr, e.dm, ?_⟩
  obtain ⟨fp, hr, nd, sub⟩ := e.rep
  by_cases hi : i < Γ.length
  · obtain ⟨x, f, pre, post, h1, h2, h3, h4⟩ := hr.nth (s := Γ[i]) (List.getElem?_eq_getElem hi)
    subst h3
    refine ⟨pre ++ ([] ++ post), h4 O H _ _ [] (fun _ _ _ _ z => z) ⟨rfl, rfl⟩, ?_, fun a ha => sub a ?_⟩
    · refine nd.sublist ?_
      simp
    · simp at ha ⊢
      rcases ha with q | q <;> simp [q]
  · have hs : ¬ i < σ.length := by rw [hr.len]; exact hi
    rw [List.set_eq_of_length_le (by omega), List.set_eq_of_length_le (by omega)]
    exact ⟨fp, hr, nd, sub⟩
/-- a slot is forgotten, whatever it holds then -/
theorem Env.setN (e : Env c H0 O H σ Γ) {i : Nat} {x : Option V} : Env c H0 O H (σ.set i x) (Γ.set i none) := by
  refine ⟨e.r0, e.j, e.fr, e.dm, ?_⟩
  obtain ⟨fp, hr, nd, sub⟩ := e.rep
  by_cases hi : i < Γ.length
  · obtain ⟨y, f, pre, post, h1, h2, h3, h4⟩ := hr.nth (s := Γ[i]) (List.getElem?_eq_getElem hi)
    subst h3
    refine ⟨pre ++ ([] ++ post), h4 O H _ _ [] (fun _ _ _ _ z => z) rfl, ?_, fun a ha => sub a ?_⟩
    · refine nd.sublist ?_
      simp
    · simp at ha ⊢
      rcases ha with q | q <;> simp [q]
  · have hs : ¬ i < σ.length := by rw [hr.len]; exact hi
    rw [List.set_eq_of_length_le (by omega), List.set_eq_of_length_le (by omega)]
    exact ⟨fp, hr, nd, sub⟩
/-- a slot is given a new list -/
theorem Env.setO (e : Env c H0 O H σ Γ) (r : Rr c H H') {i : Nat} {v : V} {d : PyData} {f : List Addr} (b : Fo c H' v d f) (nd' : f.Nodup) (new : ∀ a ∈ f, H a = none) :
    Env c H0 (f ++ O) H' (σ.set i (some v)) (Γ.set i (some (.o d))) := by
  have e' := e.on r
  have hdis : ∀ a ∈ f, a ∉ O := fun a ha hO => by
    obtain ⟨xs, q, _⟩ := e.dm a hO
    rw [new a ha] at q
    cases q
  have hn : ∀ a ∈ f, mns H O a = none := fun a ha => by
    rw [mns_out (hdis a ha)]; exact new a ha
  have same : Same (mns H O) (mns H' (f ++ O)) → True := fun _ => trivial
  have hrm : Rr c (mns H O) (mns H' (f ++ O)) := by
    have rm := r.mns e.j e.okO
    refine ⟨fun a o k h => ?_, fun _ st l q => ?_⟩
    · have h' := rm.1 a o k h
      obtain ⟨n1, h'⟩ := mns_some h'
      have : a ∉ f := fun z => by rw [hn a z] at h; cases h
      rw [mns_out (by simp [this, n1])]
      exact h'
    · obtain ⟨ns, x, k, h1, h2, h3, h4⟩ := e.j st l q
      obtain ⟨ns', x', k', g1, g2, g3, g4⟩ := e'.j st l q
      obtain ⟨m1, g1⟩ := mns_some g1
      obtain ⟨m2, g2⟩ := mns_some g2
      have a1 : st ∉ f := fun z => by rw [hn _ z] at h1; cases h1
      have a2 : l ∉ f := fun z => by rw [hn _ z] at h2; cases h2
      exact ⟨ns', x', k', by rw [mns_out (by simp [a1, m1])]; exact g1, by rw [mns_out (by simp [a2, m2])]; exact g2, g3, g4⟩
  have jn : Ji c (mns H' (f ++ O)) := hrm.2 e.j
  refine ⟨e.r0.tr hrm, jn, fun a ha => ?_, fun a ha => ?_, ?_⟩
  · rcases List.mem_append.mp ha with q | q
    · have := e.r0
      cases h : H0 a with
      | none => rfl
      | some o =>
        have jH0 : okA c a := fun st l q' z => by
          obtain ⟨ns, x, k, h1, _⟩ := e.j st l q'
          rw [← z, hn a q] at h1
          cases h1
        have := e.r0.1 a o jH0 h
        rw [hn a q] at this
        cases this
    · exact e.fr a q
  · rcases List.mem_append.mp ha with q | q
    · exact (b.isL a q).elim fun xs h => ⟨_, h, trivial⟩
    · exact e'.dm a q
  · obtain ⟨fp, hr, nd, sub⟩ := e.rep
    have keep : ∀ y t g, (∀ a ∈ g, a ∈ O) → RepO c O H y t g → RepO c (f ++ O) H' y t g := fun y t g hg z => by
      cases t with
      | none => exact z
      | some t =>
        cases t with
        | v d => exact ⟨z.1, z.2.elim fun v hv => ⟨v, hv.1, hv.2.mono e.j hrm⟩⟩
        | o d => exact z.elim fun v hv => ⟨v, hv.1, hv.2.up (fun _ _ s => r.tup e.jH s) fun a ha o ho => r.1 a o (e.okO a (hg a ha)) ho⟩
        | r y => exact z
        | d u => exact z.elim fun a ⟨w1, w2, w3, w4⟩ => ⟨a, w1, w2, r.1 a _ (e.okO a (hg a (by rw [w1]; simp))) w3, w4⟩
        | w ds => exact z.elim fun a ⟨xs, w1, w2, w3, w4⟩ => ⟨a, xs, w1, w2, r.1 a _ (e.okO a (hg a (by rw [w1]; simp))) w3, w4.mono e.j hrm⟩
    by_cases hi : i < Γ.length
    · obtain ⟨x, g, pre, post, h1, h2, h3, h4⟩ := hr.nth (s := Γ[i]) (List.getElem?_eq_getElem hi)
      subst h3
      refine ⟨pre ++ (f ++ post), h4 _ _ _ _ f (fun y t g' q z => keep y t g' (fun a ha => sub a (by have := q a ha; simp at this ⊢; rcases this with w | w <;> simp [w])) z) ⟨v, rfl, b⟩, ?_, fun a ha => ?_⟩
      · have n0 : (pre ++ post).Nodup := nd.sublist (by simp)
        rw [List.nodup_append] at n0 ⊢
        refine ⟨n0.1, ?_, ?_⟩
        · rw [List.nodup_append]
          refine ⟨nd', n0.2.1, fun a ha b' hb q => ?_⟩
          subst q
          exact hdis a ha (sub a (by simp [hb]))
        · intro a ha b' hb q
          subst q
          rcases List.mem_append.mp hb with w | w
          · exact hdis a w (sub a (by simp [ha]))
          · exact n0.2.2 a ha a w rfl
      · simp only [List.mem_append] at ha ⊢
        rcases ha with q | q | q
        · exact .inr (sub a (by simp [q]))
        · exact .inl q
        · exact .inr (sub a (by simp [q]))
    · have hs : ¬ i < σ.length := by rw [hr.len]; exact hi
      rw [List.set_eq_of_length_le (by omega), List.set_eq_of_length_le (by omega)]
      exact ⟨fp, hr.map fun x s g q z => keep x s g (fun a ha => sub a (q a ha)) z, nd, fun a ha => by simp [sub a ha]⟩
/-- a list of one's own is written: the slot's list at p -/
theorem Env.write (e : Env c H0 O H σ Γ) {i : Nat} {ds es : List PyData} (h : Γ[i]? = some (some (.o (.list ds)))) :
    ∃ p xs f, σ[i]? = some (some (.ref p)) ∧ H p = some (.lst xs) ∧ FoAll c H xs ds f ∧ p ∉ f ∧ (∀ a ∈ f, a ∈ O) ∧
      ∀ ys : List V, FoAll c (upd H p (.lst ys)) ys es f → Env c H0 O (upd H p (.lst ys)) σ (Γ.set i (some (.o (.list es)))) := by
  obtain ⟨fp, hr, nd, sub⟩ := e.rep
  obtain ⟨x, f0, pre, post, h1, h2, h3, h4⟩ := hr.nth h
  obtain ⟨v, hv, b⟩ := h2
  subst hv
  obtain ⟨p, xs, f, rfl, rfl, hp, hfa⟩ := b.list'
  subst h3
  have hpO : p ∈ O := sub p (by simp)
  have n2 := (List.nodup_append.mp nd).2.1
  have hpf : p ∉ f := fun z => by
    have := (List.nodup_append.mp n2).1
    exact (List.nodup_cons.mp this).1 z
  refine ⟨p, xs, f, h1, hp, hfa, hpf, fun a ha => sub a (by simp [ha]), fun ys hy => ?_⟩
  have em : mns (upd H p (.lst ys)) O = mns H O := by
    funext a
    by_cases ha : a ∈ O
    · rw [mns_in ha, mns_in ha]
    · rw [mns_out ha, mns_out ha, upd_ne (fun z => ha (by rw [z]; exact hpO))]
  refine ⟨by rw [em]; exact e.r0, by rw [em]; exact e.j, e.fr, fun a ha => ?_, ?_⟩
  · by_cases q : a = p
    · rw [q]; exact ⟨_, upd_same, trivial⟩
    · rw [upd_ne q]; exact e.dm a ha
  · have hσ : σ.set i (some (.ref p)) = σ := by
      obtain ⟨hlt, e1⟩ := List.getElem?_eq_some_iff.mp h1
      rw [← e1]
      exact List.set_getElem_self hlt
    have := h4 O (upd H p (.lst ys)) (some (.ref p)) (some (.o (.list es))) (p :: f) (fun y t g q z => ?_) ⟨.ref p, rfl, .lst upd_same hy⟩
    · rw [hσ] at this
      exact ⟨_, this, nd, sub⟩
    · cases t with
      | none => exact z
      | some t =>
        cases t with
        | v d => exact ⟨z.1, z.2.elim fun v hv => ⟨v, hv.1, by rw [em]; exact hv.2⟩⟩
        | o d =>
          refine z.elim fun v hv => ⟨v, hv.1, hv.2.up (fun _ _ s => sqT_upd hp s) fun a ha o ho => ?_⟩
          have : a ≠ p := fun w => by
            subst w
            have hm := q a ha
            rcases List.mem_append.mp hm with u | u
            · exact (List.nodup_append.mp nd).2.2 a u a (by simp) rfl
            · exact (List.nodup_append.mp n2).2.2 a (by simp) a u rfl
          rw [upd_ne this]
          exact ho
        | r y => exact z
        | d u =>
          refine z.elim fun a ⟨w1, w2, w3, w4⟩ => ⟨a, w1, w2, ?_, w4⟩
          have : a ≠ p := fun w => by
            subst w
            have hm := q a (by rw [w1]; simp)
            rcases List.mem_append.mp hm with u | u
            · exact (List.nodup_append.mp nd).2.2 a u a (by simp) rfl
            · exact (List.nodup_append.mp n2).2.2 a (by simp) a u rfl
          rw [upd_ne this]
          exact w3
        | w ds =>
          refine z.elim fun a ⟨xs, w1, w2, w3, w4⟩ => ⟨a, xs, w1, w2, ?_, by rw [em]; exact w4⟩
          have : a ≠ p := fun w => by
            subst w
            have hm := q a (by rw [w1]; simp)
            rcases List.mem_append.mp hm with u | u
            · exact (List.nodup_append.mp nd).2.2 a u a (by simp) rfl
            · exact (List.nodup_append.mp n2).2.2 a (by simp) a u rfl
          rw [upd_ne this]
          exact w3
/-- from now on this list is not written -/
theorem Env.freeze (e : Env c H0 O H σ Γ) {i : Nat} {d : PyData} (h : Γ[i]? = some (some (.o d))) : ∃ O', Env c H0 O' H σ (Γ.set i (some (.v d))) ∧ Same (mns H O) (mns H O') := by
  obtain ⟨fp, hr, nd, sub⟩ := e.rep
  obtain ⟨x, f, pre, post, h1, h2, h3, h4⟩ := hr.nth h
  obtain ⟨v, hv, b⟩ := h2
  subst hv
  subst h3
  have n2 := (List.nodup_append.mp nd).2.1
  have dis : ∀ a ∈ pre ++ post, a ∉ f := fun a ha hf => by
    rcases List.mem_append.mp ha with u | u
    · exact (List.nodup_append.mp nd).2.2 a u a (by simp [hf]) rfl
    · exact (List.nodup_append.mp n2).2.2 a hf a u rfl
  have hm : ∀ a, a ∈ O.filter (fun a => !decide (a ∈ f)) ↔ a ∈ O ∧ a ∉ f := fun a => by simp [List.mem_filter]
  have sm : Same (mns H O) (mns H (O.filter fun a => !decide (a ∈ f))) := mns_sub fun a ha => ((hm a).mp ha).1
  refine ⟨O.filter fun a => !decide (a ∈ f), ⟨e.r0.tr (Rr.same sm), e.j.same sm, fun a ha => e.fr a ((hm a).mp ha).1, fun a ha => e.dm a ((hm a).mp ha).1, ?_⟩, sm⟩
  have hσ : σ.set i (some v) = σ := by
    obtain ⟨hlt, e1⟩ := List.getElem?_eq_some_iff.mp h1
    rw [← e1]
    exact List.set_getElem_self hlt
  have hb : Bo c (mns H (O.filter fun a => !decide (a ∈ f))) v d := by
    refine Fo.bo (fun a ha => e.okO a (sub a (by simp [ha]))) (b.up (fun a xs s => sqT_mns (fun b' hb' => e.dm b' ((hm b').mp hb').1) s) fun a ha o ho => ?_)
    rw [mns_out fun z => ((hm a).mp z).2 ha]
    exact ho
  have := h4 (O.filter fun a => !decide (a ∈ f)) H (some v) (some (.v d)) [] (fun y t g q z => ?_) ⟨rfl, v, rfl, hb⟩
  · rw [hσ] at this
    exact ⟨_, this, nd.sublist (by simp), fun a ha => (hm a).mpr ⟨sub a (by simp at ha ⊢; rcases ha with w | w <;> simp [w]), dis a (by simpa using ha)⟩⟩
  · cases t with
    | none => exact z
    | some t =>
      cases t with
      | v d => exact ⟨z.1, z.2.elim fun v hv => ⟨v, hv.1, hv.2.same sm⟩⟩
      | o d => exact z
      | r y => exact z
      | d u => exact z
      | w ds => exact z.elim fun a ⟨xs, w1, w2, w3, w4⟩ => ⟨a, xs, w1, w2, w3, w4.same sm⟩
/-- a later entry is as good as an earlier one -/
theorem Env.base (e : Env c H0 O H σ Γ) : Env c (mns H O) O H σ Γ := ⟨Rr.rf, e.j, fun a ha => mns_in ha, e.dm, e.rep⟩
theorem Env.fromB {O1 : List Addr} {σ1 : L2.St} {Γ1 : List (Option Rs)} (e : Env c H0 O H σ Γ) (e1 : Env c (mns H O) O1 H1 σ1 Γ1) : Env c H0 O1 H1 σ1 Γ1 :=
  ⟨e.r0.tr e1.r0, e1.j, (fun a ha => by
    have h1 := e1.fr a ha
    cases h : H0 a with
    | none => rfl
    | some o =>
      have k : okA c a := fun st l q z => by
        obtain ⟨ns, x, k, g1, _⟩ := e.j st l q
        rw [← z, h1] at g1
        cases g1
      have := e.r0.1 a o k h
      rw [h1] at this
      cases this), e1.dm, e1.rep⟩
end Lm


namespace Lm
open PySem PySem.Spec PyProof.Rows L2
section
variable {X : Cx} {H : Hp}
def NewT (H : Hp) (xs : List V) (Q : VK) : Prop := ∀ p o, o.dict = none → H p = none → Q (.ref p) (upd H p (.frz o (.tup xs)))
theorem newT {pins : List (Addr × Obj)} {σ : L2.St} {s : Shared} {xs : List V} {us : List Value} {Q : VK} (I : Inv X pins σ H s) (r : Vals xs us) (z : xs.length ≤ sizeLine) (q : NewT H xs Q) :
    EP X pins σ Q (.ref s.heap.objs.size) { s with heap := s.heap.push { cls := .type "tuple", data := .seq us.toArray } } := by
  refine ⟨.ref s.heap.objs.size, upd H s.heap.objs.size (.frz { cls := .type "tuple", data := .seq us.toArray } (.tup xs)), I.laid (t' := s.toks) (fun b u e => Heap.get?_push_of_some _ e) (Nat.le_refl _) ?_, rfl, q _ _ rfl (I.hok.fresh (Nat.le_refl _))⟩
  exact ⟨Heap.get?_push_size _ rfl, z, us, r, ⟨_, Heap.get?_push_size _ rfl, rfl, _, rfl⟩⟩
def tTupN (t : TA) : TE := fun σ H Q => t σ H fun xs H1 => xs.length ≤ sizeLine ∧ NewT H1 xs Q
theorem pe_tupN {es : List Expr} {t : TA} {pos : Pos} {x1} (h : PA X es t) : PE X (.Tuple es x1 pos) (tTupN t) := by
  refine ⟨fun pins s σ H Q I hq => ?_⟩
  refine wpAny_Tuple_spliced (thn (h.run pos pins s σ H _ I hq) fun us s1 ⟨xs, H1, I1, r, z, q⟩ => ⟨by rw [← r.length]; exact z, ?_⟩)
  exact newT I1 r z q
/-- tuple(list), tuple(tuple) -/
def rTuple (K : PySem.W.Frag) : List V → Hp → VK → Prop := fun xs H Q => ∃ p ys, xs = [.ref p] ∧ ((SqL K H p ys ∧ NewT H ys Q) ∨ (SqT K H p ys ∧ Q (.ref p) H))
theorem cr_tuple : CallR X (.type "tuple") (rTuple X.K) := by
  intro pins s σ H xs us Q I r h
  obtain ⟨p, ys, rfl, h⟩ := h
  obtain ⟨u, rfl, rx⟩ := vals1 r
  cases rx
  rcases h with ⟨hq, q⟩ | ⟨hq, q⟩
  · obtain ⟨its, r', pl, hz⟩ := I.list hq
    have hlen := r'.length
    refine call_tuple_list pl.isList (fun h' kp => ?_) (by simp only [List.size_toArray] <;> omega)
    have I1 : Inv X pins σ H { s with heap := h' } := I.kept (t' := s.toks) kp
    exact newT I1 r' hz q
  · obtain ⟨its, r', pl, hz⟩ := I.tuple hq
    exact call_tuple_same pl ⟨.ref p, H, I, rfl, q⟩
/-- t + u -/
def rCatN (K : PySem.W.Frag) : R2 := fun x y H Q => ∃ a b xs ys, x = .ref a ∧ y = .ref b ∧ SqT K H a xs ∧ SqT K H b ys ∧ xs.length + ys.length ≤ sizeLine ∧
  (xs = [] → Q (.ref b) H) ∧ (xs ≠ [] → ys = [] → Q (.ref a) H) ∧ (xs ≠ [] → ys ≠ [] → NewT H (xs ++ ys) Q)
theorem op_catN : OpR X (binaryOp .Add) (rCatN X.K) := by
  intro pins s σ H x y v u Q I rx ry h
  obtain ⟨a, b, xs, ys, rfl, rfl, ha, hb, hz, q0, q1, q2⟩ := h
  cases rx
  cases ry
  obtain ⟨its, r1, p1, _⟩ := I.tuple ha
  obtain ⟨its2, r2, p2, _⟩ := I.tuple hb
  by_cases hx : xs = []
  · subst hx
    cases r1
    exact cat_tup0 p1 p2 ⟨.ref b, H, I, rfl, q0 rfl⟩
  · refine HT.cat_tup p1 p2 (fun z => hx (r1.nil_iff.mp z)) (fun z => ⟨.ref a, H, I, rfl, q1 hx (r2.nil_iff.mp z)⟩) (fun z => ?_) (by rw [← r1.length, ← r2.length]; exact hz)
    have := newT (Q := Q) I (r1.append r2) (by rw [List.length_append]; exact hz) (q2 hx (fun w => z (r2.nil_iff.mpr w)))
    exact this
/-- t[lo:hi] -/
def rSlN (K : PySem.W.Frag) : V → Option Int → Option Int → Hp → VK → Prop := fun x lo hi H Q => ∃ a xs, x = .ref a ∧ SqT K H a xs ∧
  (HT.sIx xs.length 0 lo = 0 ∧ HT.sIx xs.length xs.length hi = xs.length → Q (.ref a) H) ∧ (¬ (HT.sIx xs.length 0 lo = 0 ∧ HT.sIx xs.length xs.length hi = xs.length) → NewT H (cutV xs lo hi) Q)
theorem sl_tupN : SlR X (rSlN X.K) := by
  intro pins s σ H x v vl vu lo hi sl Q I rx hs pl pu h
  obtain ⟨a, xs, rfl, hx, q1, q2⟩ := h
  cases rx
  obtain ⟨its, r, ht, hz⟩ := I.tuple hx
  have hlen : its.toArray.size = xs.length := by rw [List.size_toArray]; exact r.length.symm
  refine ⟨"tuple", _, PyProof.Rows.slot_tuple_getitem.lookup, ht.typeIs, ?_⟩
  by_cases hw : HT.sIx xs.length 0 lo = 0 ∧ HT.sIx xs.length xs.length hi = xs.length
  · exact getItem_tuple_whole ht hs pl pu (by rw [hlen]; exact hw) ⟨.ref a, H, I, rfl, q1 hw⟩
  · refine HT.getItem_tuple_cut ht hs pl pu (by rw [hlen]; exact hw) ?_ (by rw [hlen]; exact hz)
    rw [hlen]
    have := newT (Q := Q) I ((r.drop (HT.sIx xs.length 0 lo)).take (HT.sIx xs.length xs.length hi - HT.sIx xs.length 0 lo)) (Nat.le_trans (cutV_length xs lo hi) hz) (q2 hw)
    exact this
/-- a method of a tuple -/
def tTM (K : PySem.W.Frag) (r : V → List V → Hp → VK → Prop) (to : TE) (t : TA) : TE := fun σ H Q => to σ H fun x H1 => (∃ a xs, x = .ref a ∧ TpN K H1 a xs) ∧ t σ H1 fun vs H2 => r x vs H2 Q
theorem pe_tm {name : Str} {id : String} {r : V → List V → Hp → VK → Prop} {o e : Expr} {es : List Expr} {to : TE} {t : TA} {apos cpos : Pos} (slot : Slot "tuple" name id) (hty : typeOf (.builtin id) = pure (.type "method_descriptor")) (hm : MtR X id r) (ho : PE X o to) (ha : PA X (e :: es) t)
    (hbase : attributeBase o name X.env (eval o X.env) = eval o X.env := by rfl)
    (hfew : ((backTo cpos (starEach (e :: es) X.env)).all (fun x => !x.1) && (backToKw cpos (keywordEach [] X.env)).all (fun x => x.1.isSome)
      && decide ((e :: es).length + ([] : List Keyword).length + (if ([] : List Keyword).isEmpty then 0 else 1) < 30)) = true := by rfl)
    (hline : (apos.endLine == cpos.line) = true := by rfl) (hs : starEach (e :: es) X.env = (false, eval e X.env) :: starEach es X.env := by rfl) (hplain : (backTo cpos (starEach es X.env)).any (·.1) = false := by rfl) :
    PE X (.Call (.Attribute o name apos) (e :: es) [] cpos) (tTM X.K r to t) := by
  refine ⟨fun pins s σ H Q I h => ?_⟩
  refine wpAny_Call_method_late hbase hfew hline rfl (thn (ho.run pins s σ H _ I h) fun v s1 ⟨x, H1, I1, r1, ty, q1⟩ => ?_)
  obtain ⟨a, xs, rfl, ht⟩ := ty
  cases r1
  have hty2 : s1.TypeIs (.ref a) "tuple" ∧ ∀ b, Value.ref a = .ref b → ∃ ob, s1.heap.get? b = some ob ∧ ob.dict = none := by
    obtain ⟨its, rv, ⟨ob0, g0, hc0, n0, hd0⟩, _⟩ := I1.tuple ht.sq
    refine ⟨⟨ob0, g0, hc0⟩, fun b e => ?_⟩
    cases e
    rcases ht with ⟨ob, hn, hq⟩ | ⟨ob, its', n, hl, hc, hdn, hd, hz, hv⟩
    · obtain ⟨g, _⟩ := I1.hok a _ hq
      exact ⟨ob, g, hn⟩
    · exact ⟨ob, I1.kIn _ _ hl, hdn⟩
  obtain ⟨h1, h2⟩ := hty2
  refine ⟨"tuple", id, PySem.F.plainAttrs_tuple, slot, hty, h1, h2, ?_⟩
  have hA := ha.run cpos pins s1 σ H1 _ I1 q1
  rw [hs] at hA ⊢
  refine Calls.callWith_builtin (by show (false || (backTo cpos (starEach es X.env)).any (·.1)) = false; rw [hplain] <;> rfl) (Calls.evalArgs_plain ?_)
  exact thn hA fun us s2 ⟨vs, H2, I2, r2, q2⟩ => hm pins s2 σ H2 (.ref a) vs (.ref a) us Q I2 rfl r2 q2
end
end Lm
namespace Lm
open PySem PySem.Spec PyProof.Rows L2
section
variable {X : Cx}
def rCountT (K : PySem.W.Frag) : V → List V → Hp → VK → Prop := fun x xs H Q => ∃ (p : Addr) (ns : List Int) (k : Int), x = .ref p ∧ xs = [.int k] ∧ SqT K H p (ns.map V.int) ∧ Q (.int (ns.count k : Nat)) H
theorem mt_tcount : MtR X "tuple.count" (rCountT X.K) := by
  intro pins s σ H x xs v us Q I rx rxs h
  obtain ⟨p, ns, k, rfl, rfl, hs, q⟩ := h
  cases rx
  obtain ⟨u, rfl, ru⟩ := rxs.one
  obtain ⟨t, rfl⟩ := ru
  obtain ⟨its, rv, ⟨⟨cls, dd, data, sl⟩, ho, hc, n, hd⟩, hlen⟩ := I.tuple hs
  simp only at hc hd
  subst hc hd
  have hi := ints_of_vals rv
  refine call_meets PySem.F.slot_tuple_count ⟨_, ho, rfl⟩ PySem.F.entry_tuple_count (PySem.F.args_tuple_count_2 _ _)
    (SeqAt.tuple_countAt p its.toArray n dd sl (.int k t) (eqk k)) ⟨ho, fun y hy => (eqk_gives hi y (by simpa using hy)).at _ _, ?_⟩
  have ec : its.toArray.toList.countP (eqk k) = ns.count k := eqk_count hi
  refine ⟨.int (ns.count k : Nat), H, I.tok _, ⟨s.toks, ?_⟩, q⟩
  show Value.int ((its.toArray.toList.countP (eqk k) : Nat) : Int) s.toks = Value.int ((ns.count k : Nat) : Int) s.toks
  rw [ec]
end
end Lm


namespace Lm
open PySem PySem.Spec PyProof.Rows L2
variable {c : Ct} {H H' H0 H1 H2 H3 : Hp} {O : List Addr} {σ : L2.St} {Γ : List (Option Rs)}

/-- what an expression gives: a value that stays, a new list, something to be read at once -/
inductive Kd | v | o | b
def Res (c : Ct) (O : List Addr) (H H2 : Hp) (v : V) (d : PyData) : Kd → Prop
  | .v => Bo c (mns H2 O) v d
  | .o => ∃ fp, Fo c H2 v d fp ∧ fp.Nodup ∧ ∀ a ∈ fp, H a = none
  | .b => Bo c H2 v d
theorem Res.bo {v : V} {d : PyData} {k : Kd} (e : Env c H0 O H σ Γ) (h : Res c O H H2 v d k) : Bo c H2 v d := by
  cases k with
  | v => exact Bo.same mns_same h
  | o =>
    obtain ⟨fp, f, nd, new⟩ := h
    exact f.bo fun a ha => okA.fresh e.jH (new a ha)
  | b => exact h
theorem Res.on {v : V} {d : PyData} {k : Kd} (e : Env c H0 O H σ Γ) (r1 : Rr c H H2) (r : Rr c H2 H3) (h : Res c O H H2 v d k) : Res c O H H3 v d k := by
  have e2 := e.on r1
  cases k with
  | v => exact Bo.mono e2.j (r.mns e2.j e2.okO) h
  | o =>
    obtain ⟨fp, f, nd, new⟩ := h
    exact ⟨fp, f.up (fun _ _ s => r.tup e2.jH s) (fun a ha o q => r.1 a o (okA.fresh e.jH (new a ha)) q), nd, new⟩
  | b => exact Bo.mono e2.jH r h
/-- fresh behind is fresh before -/
theorem Res.back {v : V} {d : PyData} {k : Kd} (e : Env c H0 O H σ Γ) (r1 : Rr c H H2) (h : Res c O H2 H3 v d k) : Res c O H H3 v d k := by
  cases k with
  | v => exact h
  | o =>
    obtain ⟨fp, f, nd, new⟩ := h
    exact ⟨fp, f, nd, fun a ha => r1.back e.jH (new a ha)⟩
  | b => exact h
theorem Bo.flatM {v : V} {d : PyData} (e : Env c H0 O H σ Γ) (r : Rr c H H2) (q : flatD d = true) (h : Bo c H2 v d) : Bo c (mns H2 O) v d :=
  h.flatTo (fun a xs s => sqT_mns (fun b hb => (e.on r).dm b hb) s) q

def Ev (c : Ct) (te : TE) (Γ : List (Option Rs)) (k : Kd) (d : PyData) : Prop :=
  ∀ H0 O H σ, Env c H0 O H σ Γ → ∀ Q : VK, (∀ v H2, Rr c H H2 → Res c O H H2 v d k → Q v H2) → te σ H Q
/-- .. one of several -/
def EvN (c : Ct) (te : TE) (Γ : List (Option Rs)) (k : Kd) (P : PyData → Prop) : Prop :=
  ∀ H0 O H σ, Env c H0 O H σ Γ → ∀ Q : VK, (∀ v d H2, P d → Rr c H H2 → Res c O H H2 v d k → Q v H2) → te σ H Q
def EvT (c : Ct) (tt : TT) (Γ : List (Option Rs)) (b : Bool) : Prop :=
  ∀ H0 O H σ, Env c H0 O H σ Γ → ∀ Q : Bool → Hp → Prop, (∀ H2, Rr c H H2 → Q b H2) → tt σ H Q
def EvTN (c : Ct) (tt : TT) (Γ : List (Option Rs)) : Prop :=
  ∀ H0 O H σ, Env c H0 O H σ Γ → ∀ Q : Bool → Hp → Prop, (∀ b H2, Rr c H H2 → Q b H2) → tt σ H Q
/-- arguments, to be read; (kv) each a value that stays -/
def EvA (c : Ct) (ta : TA) (Γ : List (Option Rs)) (kv : Bool) (ds : List PyData) : Prop :=
  ∀ H0 O H σ, Env c H0 O H σ Γ → ∀ Q : List V → Hp → Prop, (∀ vs H2, Rr c H H2 → BoAll c (if kv then mns H2 O else H2) vs ds → Q vs H2) → ta σ H Q
section
variable {te ta tb tx : TE} {tt tu : TT} {tr : TA} {k ka kb : Kd} {d x y z : PyData} {i j : Int} {a b : Bool} {kv : Bool} {ds : List PyData}
theorem Ev.n (h : Ev c te Γ k d) : EvN c te Γ k (fun x => x = d) := fun H0 O H σ e Q q => h H0 O H σ e Q fun v H2 r s => q v d H2 rfl r s
theorem EvN.det (h : EvN c te Γ k (fun x => x = d)) : Ev c te Γ k d := fun H0 O H σ e Q q => h H0 O H σ e Q fun v d H2 p r s => by subst p; exact q v H2 r s
theorem EvN.imp {P P' : PyData → Prop} (h : EvN c te Γ k P) (i : ∀ d, P d → P' d) : EvN c te Γ k P' := fun H0 O H σ e Q q => h H0 O H σ e Q fun v d H2 p => q v d H2 (i d p)
theorem Ev.to (h : Ev c te Γ k x) (e : x = y) : Ev c te Γ k y := e ▸ h
theorem EvT.to (h : EvT c tt Γ a) (e : a = b) : EvT c tt Γ b := e ▸ h
/-- flat data stay -/
theorem Ev.fl (h : Ev c te Γ k d) (f : flatD d = true) : Ev c te Γ .v d := fun H0 O H σ e Q q => h H0 O H σ e Q fun v H2 r s => q v H2 r (Bo.flatM e r f (Res.bo e s))
theorem Ev.fo (h : Ev c te Γ k d) (f : flatD d = true) : Ev c te Γ .o d := fun H0 O H σ e Q q => h H0 O H σ e Q fun v H2 r s => q v H2 r ⟨[], .leaf f (Res.bo e s), List.nodup_nil, fun _ h => nomatch h⟩
theorem EvN.fo {P : PyData → Prop} (h : EvN c te Γ k P) (f : ∀ d, P d → flatD d = true) : EvN c te Γ .o P := fun H0 O H σ e Q q => h H0 O H σ e Q fun v d H2 p r s => q v d H2 p r ⟨[], .leaf (f d p) (Res.bo e s), List.nodup_nil, fun _ h => nomatch h⟩
theorem EvN.fl {P : PyData → Prop} (h : EvN c te Γ k P) (f : ∀ d, P d → flatD d = true) : EvN c te Γ .v P := fun H0 O H σ e Q q => h H0 O H σ e Q fun v d H2 p r s => q v d H2 p r (Bo.flatM e r (f d p) (Res.bo e s))

/-! ### leaves -/
theorem d_int : Ev c (tC (.int i)) Γ .v (.int i) := fun H0 O H σ e Q q => q _ H Rr.rf (.int i)
theorem d_bl : Ev c (tC (.bl a)) Γ .v (.bool a) := fun H0 O H σ e Q q => q _ H Rr.rf (.bl a)
theorem d_str {s : Str} : Ev c (tC (.str s)) Γ .v (.str s) := fun H0 O H σ e Q q => q _ H Rr.rf (.str s)
theorem d_non : Ev c (tC .non) Γ .v .none := fun H0 O H σ e Q q => q _ H Rr.rf .non
theorem d_var {n : Nat} (h : Γ[n]? = some (some (.v d))) : Ev c (tVar n) Γ .v d := fun H0 O H σ e Q q => by
  obtain ⟨v, hv, b⟩ := e.slotV h
  exact ⟨v, hv, q v H Rr.rf b⟩
theorem d_varO {n : Nat} (h : Γ[n]? = some (some (.o d))) : Ev c (tVar n) Γ .b d := fun H0 O H σ e Q q => by
  obtain ⟨v, fp, hv, f, nd, sub⟩ := e.slotO h
  exact ⟨v, hv, q v H Rr.rf (f.bo fun a ha => e.okO a (sub a ha))⟩
/-! ### two operands -/
theorem d_bin {r : R2} (ha : Ev c ta Γ ka x) (hb : Ev c tb Γ kb y)
    (hr : ∀ H O v u (Q : VK), Bo c H v x → Bo c H u y → (∀ v' H2, Rr c H H2 → Bo c (mns H2 O) v' z → Q v' H2) → r v u H Q) : Ev c (tOp r ta tb) Γ .v z := fun H0 O H σ e Q q =>
  ha H0 O H σ e _ fun v H1 r1 s1 => hb H0 O H1 σ (e.on r1) _ fun u H2 r2 s2 =>
    hr H2 O v u Q (Res.bo e (Res.on e r1 r2 s1)) (Res.bo (e.on r1) s2) fun v' H3 r3 b => q v' H3 ((r1.tr r2).tr r3) b
theorem d_I0 {g : Int → Int → V} {w : V} (ha : Ev c ta Γ ka (.int i)) (hb : Ev c tb Γ kb (.int j)) (hw : g i j = w) (hz : ∀ H, Bo c H w z) : Ev c (tOp (rI0 g) ta tb) Γ .v z :=
  d_bin ha hb fun H O v u Q bv bu q => ⟨i, j, bv.int', bu.int', q _ H Rr.rf (hw ▸ hz _)⟩
theorem d_sub (ha : Ev c ta Γ ka (.int i)) (hb : Ev c tb Γ kb (.int j)) : Ev c (tOp (rI0 fun i j => .int (i - j)) ta tb) Γ .v (.int (i - j)) := d_I0 ha hb rfl fun _ => .int _
theorem d_lt (ha : Ev c ta Γ ka (.int i)) (hb : Ev c tb Γ kb (.int j)) : Ev c (tOp (rI0 fun i j => .bl (decide (i < j))) ta tb) Γ .v (.bool (decide (i < j))) := d_I0 ha hb rfl fun _ => .bl _
theorem d_le (ha : Ev c ta Γ ka (.int i)) (hb : Ev c tb Γ kb (.int j)) : Ev c (tOp (rI0 fun i j => .bl (decide (i ≤ j))) ta tb) Γ .v (.bool (decide (i ≤ j))) := d_I0 ha hb rfl fun _ => .bl _
theorem d_gt (ha : Ev c ta Γ ka (.int i)) (hb : Ev c tb Γ kb (.int j)) : Ev c (tOp (rI0 fun i j => .bl (decide (j < i))) ta tb) Γ .v (.bool (decide (j < i))) := d_I0 ha hb rfl fun _ => .bl _
/-- == and != of scalars -/
def scalD : PyData → Option V
  | .none => some .non
  | .bool b => some (.bl b)
  | .int i => some (.int i)
  | .str s => some (.str s)
  | _ => none
theorem Bo.scal {v w : V} (h : Bo c H v d) (e : scalD d = some w) : v = w := by
  cases h with
  | non => exact Option.some.inj e
  | bl _ => exact Option.some.inj e
  | int _ => exact Option.some.inj e
  | str _ => exact Option.some.inj e
  | lst _ _ _ => cases e
  | tup _ _ => cases e
theorem decI {i j : Int} : decide (V.int i = V.int j) = decide (i = j) := by
  by_cases h : i = j
  · subst h; simp
  · rw [decide_eq_false h, decide_eq_false (fun e => h (V.int.inj e))]
def isNoneD : PyData → Bool
  | .none => true
  | _ => false
theorem Bo.isN {v : V} (h : Bo c H v d) : decide (v = V.non) = isNoneD d := by
  cases h <;> simp [isNoneD]
/-- is None -/
theorem d_isN (ha : Ev c ta Γ ka x) : Ev c (tOp (fun x y H Q => y = .non ∧ Q (.bl (decide (x = .non))) H) ta (tC .non)) Γ .v (.bool (isNoneD x)) :=
  d_bin ha d_non fun H O v u Q bv bu q => ⟨bu.non', by rw [bv.isN]; exact q _ H Rr.rf (.bl _)⟩
theorem d_notN (ha : Ev c ta Γ ka x) : Ev c (tOp (fun x y H Q => y = .non ∧ Q (.bl (!decide (x = .non))) H) ta (tC .non)) Γ .v (.bool (!(isNoneD x))) :=
  d_bin ha d_non fun H O v u Q bv bu q => ⟨bu.non', by rw [bv.isN]; exact q _ H Rr.rf (.bl _)⟩
/-- an item -/
theorem atI_bo {v : List V} (h : BoAll c H v ds) (e : atI ds i = some d) : ∃ x, atI v i = some x ∧ Bo c H x d := by
  unfold atI at e ⊢
  rw [h.len]
  cases q : ixN ds.length i with
  | none => rw [q] at e; cases e
  | some n =>
    rw [q] at e
    exact h.gets e
/-! ### truth -/
theorem d_notV (ha : Ev c ta Γ ka (.bool a)) : Ev c (tNotV ta) Γ .v (.bool (!a)) := fun H0 O H σ e Q q =>
  ha H0 O H σ e _ fun v H1 r1 s1 => ⟨a, (Res.bo e s1).bl', q _ H1 r1 (.bl _)⟩
theorem d_andV (ha : Ev c ta Γ ka (.bool a)) (hb : a = true → Ev c tb Γ .v (.bool b)) : Ev c (tAndV ta tb) Γ .v (.bool (a && b)) := fun H0 O H σ e Q q =>
  ha H0 O H σ e _ fun v H1 r1 s1 => ⟨a, (Res.bo e s1).bl', by
    cases a with
    | true =>
      refine iteT (hb rfl H0 O H1 σ (e.on r1) _ fun u H2 r2 s2 => ?_)
      rw [(Res.bo (e.on r1) s2).bl']
      exact q _ H2 (r1.tr r2) (.bl _)
    | false => exact iteF (q _ H1 r1 (.bl _))⟩
theorem t_test (h : Ev c te Γ k (.bool a)) : EvT c (tTest te) Γ a := fun H0 O H σ e Q q => h H0 O H σ e _ fun v H2 r s => ⟨a, (Res.bo e s).bl', q H2 r⟩
theorem t_B (h : Ev c te Γ k (.bool a)) : EvT c (tB te) Γ a := fun H0 O H σ e Q q => h H0 O H σ e _ fun v H2 r s => ⟨a, (Res.bo e s).bl', q H2 r⟩
theorem t_not (h : EvT c tt Γ a) : EvT c (tNot tt) Γ (!a) := fun H0 O H σ e Q q => h H0 O H σ e _ fun H2 r => q H2 r
theorem t_and (h : EvT c tt Γ a) (g : a = true → EvT c tu Γ b) : EvT c (tAnd tt tu) Γ (a && b) := fun H0 O H σ e Q q => h H0 O H σ e _ fun H2 r => by
  cases a with
  | true => exact iteT (g rfl H0 O H2 σ (e.on r) _ fun H3 r3 => q H3 (r.tr r3))
  | false => exact iteF (q H2 r)
theorem t_or (h : EvT c tt Γ a) (g : a = false → EvT c tu Γ b) : EvT c (tOr tt tu) Γ (a || b) := fun H0 O H σ e Q q => h H0 O H σ e _ fun H2 r => by
  cases a with
  | false => exact iteF (g rfl H0 O H2 σ (e.on r) _ fun H3 r3 => q H3 (r.tr r3))
  | true => exact iteT (q H2 r)
theorem t_yes : EvT c tYes Γ true := fun H0 O H σ e Q q => q H Rr.rf
/-! ### arguments -/
theorem a_nil : EvA c tNil Γ kv [] := fun H0 O H σ e Q q => q [] H Rr.rf .nil
theorem a_cons (h : Ev c te Γ k d) (hr : EvA c tr Γ false ds) : EvA c (tCons te tr) Γ false (d :: ds) := fun H0 O H σ e Q q =>
  h H0 O H σ e _ fun v H1 r1 s1 => hr H0 O H1 σ (e.on r1) _ fun vs H2 r2 s2 => q _ H2 (r1.tr r2) (.cons (Res.bo e (s1.on e r1 r2)) s2)
theorem a_consV (h : Ev c te Γ .v d) (hr : EvA c tr Γ true ds) : EvA c (tCons te tr) Γ true (d :: ds) := fun H0 O H σ e Q q =>
  h H0 O H σ e _ fun v H1 r1 s1 => hr H0 O H1 σ (e.on r1) _ fun vs H2 r2 s2 => q _ H2 (r1.tr r2) (.cons (s1.on e r1 r2) s2)
end
end Lm


namespace Lm
open PySem PySem.Spec PyProof.Rows L2
variable {c : Ct} {H H' H0 H1 H2 H3 : Hp} {O : List Addr} {σ : L2.St} {Γ Γ' : List (Option Rs)}

/-! ### what is walked -/
/-- an item: data, or a tuple made for the target alone -/
inductive Im where
  | d (x : PyData)
  | t (xs : List Im)
mutual
inductive Lo (c : Ct) (F : Hp) (fz : Bool) (H : Hp) : V → Im → Prop
  | leaf {v : V} {d : PyData} : (flatD d = true ∧ Bo c H v d) ∨ (fz = true ∧ Bo c F v d) → Lo c F fz H v (.d d)
  | tup {a : Addr} {xs : List V} {ds : List Im} : SqT c.K H a xs → LoAll c F fz H xs ds → Lo c F fz H (.ref a) (.t ds)
inductive LoAll (c : Ct) (F : Hp) (fz : Bool) (H : Hp) : List V → List Im → Prop
  | nil : LoAll c F fz H [] []
  | cons {v : V} {vs : List V} {d : Im} {ds : List Im} : Lo c F fz H v d → LoAll c F fz H vs ds → LoAll c F fz H (v :: vs) (d :: ds)
end
theorem LoAll.ofFlat {F : Hp} {fz : Bool} : ∀ {v : List V} {d : List PyData}, flatAll d = true → BoAll c H v d → LoAll c F fz H v (d.map Im.d)
  | _, _, _, .nil => .nil
  | _, _, q, .cons a b => by
    have q' : (flatD _ && flatAll _) = true := q
    rw [Bool.and_eq_true] at q'
    exact .cons (.leaf (.inl ⟨q'.1, a⟩)) (LoAll.ofFlat q'.2 b)
theorem LoAll.ofFz {F : Hp} : ∀ {v : List V} {d : List PyData}, BoAll c F v d → LoAll c F true H v (d.map Im.d)
  | _, _, .nil => .nil
  | _, _, .cons a b => .cons (.leaf (.inr ⟨rfl, a⟩)) (LoAll.ofFz b)
theorem LoAll.len {F : Hp} {fz : Bool} : ∀ {v : List V} {d : List Im}, LoAll c F fz H v d → v.length = d.length
  | _, _, .nil => rfl
  | _, _, .cons _ b => by simp [LoAll.len b]
/-- a tuple's parts -/
theorem Lo.parts {F : Hp} {fz : Bool} {v : V} {ds : List PyData} (j : Ji c F) (r : Rr c F H) (h : Lo c F fz H v (.d (.tuple ds))) : ∃ a xs, v = .ref a ∧ SqT c.K H a xs ∧ LoAll c F fz H xs (ds.map Im.d) := by
  cases h with
  | leaf h =>
    rcases h with ⟨q, b⟩ | ⟨q, b⟩
    · obtain ⟨a, xs, rfl, s, al⟩ := b.tup'
      exact ⟨a, xs, rfl, s.sq, .ofFlat (by simpa [flatD] using q) al⟩
    · obtain ⟨a, xs, rfl, s, al⟩ := b.tup'
      subst q
      exact ⟨a, xs, rfl, (r.tup j s).sq, .ofFz al⟩
def WD (c : Ct) (F : Hp) (fz : Bool) (J : It) (ds : List Im) : Prop :=
  Ji c F ∧ Walk J ds.length (fun H => Rr c F H) (fun i H x H' => Same H H' ∧ ∃ d, ds[i]? = some d ∧ Lo c F fz H' x d)
def EvI (c : Ct) (wi : TI) (Γ : List (Option Rs)) (fz : Bool) (ds : List Im) : Prop :=
  ∀ H0 O H σ, Env c H0 O H σ Γ → ∀ R : It → Hp → Prop, (∀ J H1, Rr c H H1 → WD c (if fz then mns H1 O else H1) fz J ds → R J H1) → wi σ H R
/-- a target takes an item -/
def EvG (c : Ct) (g : TG) (d : Im) (Γ Γ' : List (Option Rs)) (js : List Nat) : Prop :=
  ∀ H0 O H σ F fz x, Env c H0 O H σ Γ → Ji c F → Rr c F H → (fz = true → Rr c F (mns H O)) → Lo c F fz H x d → ∀ Q : L2.St → Hp → Prop,
    (∀ σ', Env c H0 O H σ' Γ' → (∀ vs, (∀ j ∈ js, j ∈ vs) → wipe σ' vs = wipe σ vs) → Q σ' H) → g x σ H Q
def EvGs (c : Ct) (g : TGs) (ds : List Im) (Γ Γ' : List (Option Rs)) (js : List Nat) : Prop :=
  ∀ H0 O H σ F fz xs, Env c H0 O H σ Γ → Ji c F → Rr c F H → (fz = true → Rr c F (mns H O)) → LoAll c F fz H xs ds → ∀ Q : L2.St → Hp → Prop,
    (∀ σ', Env c H0 O H σ' Γ' → (∀ vs, (∀ j ∈ js, j ∈ vs) → wipe σ' vs = wipe σ vs) → Q σ' H) → g xs σ H Q
theorem wipe_set {x : Option V} {j : Nat} {σ : L2.St} : ∀ {vs : List Nat}, j ∈ vs → wipe (σ.set j x) vs = wipe σ vs
  | [], h => by simp at h
  | v :: vs, h => by
    unfold wipe
    by_cases hj : j ∈ vs
    · rw [wipe_set hj]
    · have e : j = v := by simpa [hj] using h
      subst e
      have : ∀ (us : List Nat) (σ : L2.St), (wipe (σ.set j x) us).set j none = (wipe σ us).set j none := by
        intro us
        induction us with
        | nil => intro σ; simp [wipe]
        | cons u us ih =>
          intro σ
          show ((wipe (σ.set j x) us).set u none).set j none = ((wipe σ us).set u none).set j none
          by_cases q : u = j
          · subst q; simpa using ih σ
          · rw [List.set_comm _ _ q, ih σ, List.set_comm _ _ (fun z => q z.symm)]
      exact this vs σ
theorem wipe_wipe {σ : L2.St} : ∀ {vs us : List Nat}, (∀ v ∈ vs, v ∈ us) → wipe (wipe σ vs) us = wipe σ us
  | [], us, h => rfl
  | v :: vs, us, h => by
    show wipe ((wipe σ vs).set v none) us = wipe σ us
    rw [wipe_set (h v (by simp)), wipe_wipe fun w hw => h w (by simp [hw])]
def wipeG (Γ : List (Option Rs)) : List Nat → List (Option Rs)
  | [] => Γ
  | v :: vs => (wipeG Γ vs).set v none
theorem Env.wipe (e : Env c H0 O H σ Γ) : ∀ vs : List Nat, Env c H0 O H (L2.wipe σ vs) (wipeG Γ vs)
  | [] => e
  | v :: vs => (Env.wipe e vs).setN
theorem g_name {j : Nat} {d : PyData} : EvG c (gName j) (.d d) Γ (Γ.set j (some (.v d))) [j] := fun H0 O H σ F fz x e jF rF rM h Q q => by
  have b : Bo c (mns H O) x d := by
    cases h with
    | leaf h =>
      rcases h with ⟨f, b⟩ | ⟨f, b⟩
      · exact b.flatTo (fun a xs s => sqT_mns (fun b hb => e.dm b hb) s) f
      · exact b.mono jF (rM f)
  exact q _ (e.setV b) fun vs hv => wipe_set (hv j (by simp))
theorem g_nil : EvGs c gNil [] Γ Γ [] := fun H0 O H σ F fz xs e jF rF rM h Q q => by
  cases h
  exact ⟨rfl, q σ e fun _ _ => rfl⟩
theorem g_cons {g : TG} {gs : TGs} {d : Im} {ds : List Im} {Γ1 Γ2 : List (Option Rs)} {js ks : List Nat} (h : EvG c g d Γ Γ1 js) (hs : EvGs c gs ds Γ1 Γ2 ks) : EvGs c (gCons g gs) (d :: ds) Γ Γ2 (js ++ ks) := fun H0 O H σ F fz xs e jF rF rM l Q q => by
  cases l with
  | cons a b =>
    exact ⟨_, _, rfl, h H0 O H σ F fz _ e jF rF rM a _ fun σ1 e1 w1 => hs H0 O H σ1 F fz _ e1 jF rF rM b _ fun σ2 e2 w2 => q σ2 e2 fun vs hv =>
      (w2 vs fun j hj => hv j (by simp [hj])).trans (w1 vs fun j hj => hv j (by simp [hj]))⟩
theorem g_tup {n : Nat} {gs : TGs} {ds : List Im} {js : List Nat} (hn : ds.length = n) (hs : EvGs c gs ds Γ Γ' js) : EvG c (gTup c.K n gs) (.t ds) Γ Γ' js := fun H0 O H σ F fz x e jF rF rM h Q q => by
  cases h with
  | tup s al => exact ⟨_, _, rfl, s, al.len.trans hn, hs H0 O H σ F fz _ e jF rF rM al Q q⟩
theorem g_tupD {n : Nat} {gs : TGs} {ds : List PyData} {js : List Nat} (hn : ds.length = n) (hs : EvGs c gs (ds.map Im.d) Γ Γ' js) : EvG c (gTup c.K n gs) (.d (.tuple ds)) Γ Γ' js := fun H0 O H σ F fz x e jF rF rM h Q q => by
  obtain ⟨a, xs, rfl, s, al⟩ := h.parts jF rF
  exact ⟨_, _, rfl, s, al.len.trans (by simpa using hn), hs H0 O H σ F fz _ e jF rF rM al Q q⟩
end Lm


namespace Lm
open PySem PySem.Spec PyProof.Rows L2
variable {c : Ct} {H H' H0 H1 H2 H3 : Hp} {O : List Addr} {σ : L2.St} {Γ Γ' : List (Option Rs)}
variable {te ta tb tx tl : TE} {tt tu : TT} {tr : TA} {k ka kb : Kd} {d x y z : PyData} {i j : Int} {a b : Bool} {kv fz : Bool} {ds es : List PyData}

/-! ### what is walked: lists, tuples, ranges -/
theorem sizeOk {n : Nat} (h : n ≤ 1000000) : n ≤ sizeLine := Nat.le_trans h (by decide)
theorem map_get? {α : Type} {f : PyData → α} {i : Nat} {d : PyData} (h : ds[i]? = some d) : (ds.map f)[i]? = some (f d) := by simp [h]
/-- the frozen part -/
theorem Res.frozen {v : V} (e : Env c H0 O H σ Γ) (r : Rr c H H2) (h : Res c O H H2 v d k) (hk : k ≠ .b) : Bo c (mns H2 O) v d := by
  cases k with
  | v => exact h
  | o =>
    obtain ⟨fp, f, nd, new⟩ := h
    have e2 := e.on r
    have no : ∀ a ∈ fp, a ∉ O := fun a ha hO => by
      obtain ⟨xs, q, _⟩ := e.dm a hO
      rw [new a ha] at q
      cases q
    exact (f.up (fun a xs s => sqT_mns (fun b hb => e2.dm b hb) s) fun a ha o q => by rw [mns_out (no a ha)]; exact q).bo fun a ha => okA.fresh e.jH (new a ha)
  | b => exact absurd rfl hk
theorem i_core {J : It} {xs : List V} {F : Hp} (jF : Ji c F) (hw : Walk J xs.length (fun H => Rr c F H) (YAt xs)) (hb : BoAll c F xs ds) (hf : fz = true ∨ flatAll ds = true) : WD c F fz J (ds.map Im.d) := by
  refine ⟨jF, ?_⟩
  have hl : xs.length = (ds.map Im.d).length := by rw [hb.len]; simp
  rw [hl] at hw
  refine hw.mono (fun _ h => h) fun i H x H' hi g y => ?_
  obtain ⟨rfl, hx⟩ := y
  obtain ⟨d, hd, bd⟩ := hb.get hx
  refine ⟨Same.refl _, .d d, map_get? hd, .leaf ?_⟩
  rcases hf with hf | hf
  · exact .inr ⟨hf, bd⟩
  · refine .inl ⟨?_, bd.mono jF g⟩
    have : ∀ (l : List PyData), flatAll l = true → ∀ d ∈ l, flatD d = true := by
      intro l
      induction l with
      | nil => intro _ _ h; simp at h
      | cons a l ih =>
        intro q d hd
        have q' : (flatD a && flatAll l) = true := q
        rw [Bool.and_eq_true] at q'
        rcases List.mem_cons.mp hd with w | w
        · rw [w]; exact q'.1
        · exact ih q'.2 d w
    exact this ds hf d (List.mem_of_getElem? hd)
theorem i_listB (h : Ev c tl Γ k (.list ds)) (hf : flatAll ds = true) : EvI c (iList c.K tl) Γ false (ds.map Im.d) := fun H0 O H σ e R q =>
  h H0 O H σ e _ fun v H1 r s => by
    obtain ⟨p, xs, rfl, kp, sl, al⟩ := (Res.bo e s).lst'
    have j1 := (e.on r).jH
    exact ⟨p, rfl, ⟨xs, sl⟩, q _ H1 r (i_core j1 (walk_list.mono (fun H h => h.lst kp sl) fun _ _ _ _ _ _ y => y) al (.inr hf))⟩
theorem i_list (h : Ev c tl Γ k (.list ds)) (hk : k ≠ .b) : EvI c (iList c.K tl) Γ true (ds.map Im.d) := fun H0 O H σ e R q =>
  h H0 O H σ e _ fun v H1 r s => by
    obtain ⟨p, xs, rfl, kp, sl, al⟩ := (Res.frozen e r s hk).lst'
    exact ⟨p, rfl, ⟨xs, mns_same.seq sl⟩, q _ H1 r (i_core (e.on r).j (walk_list.mono (fun H h => h.lst kp sl) fun _ _ _ _ _ _ y => y) al (.inl rfl))⟩
theorem i_tup (h : Ev c tl Γ k (.tuple ds)) (hk : k ≠ .b) : EvI c (iTup c.K tl) Γ true (ds.map Im.d) := fun H0 O H σ e R q =>
  h H0 O H σ e _ fun v H1 r s => by
    obtain ⟨p, xs, rfl, sl, al⟩ := (Res.frozen e r s hk).tup'
    exact ⟨p, rfl, ⟨xs, (sqT_same mns_same sl).sq⟩, q _ H1 r (i_core (e.on r).j (walk_tup.mono (fun H h => (h.tup (e.on r).j sl).sq) fun _ _ _ _ _ _ y => y) al (.inl rfl))⟩
/-- the upI from lo on, n of them -/
def upI (lo : Int) (n : Nat) : List Int := (List.range n).map fun (i : Nat) => lo + (i : Int)
theorem i_range {F : Hp} (jF : Ji c F) {lo : Int} {n : Nat} : WD c F fz (Itr lo n) ((upI lo n).map fun i => Im.d (.int i)) := by
  refine ⟨jF, ?_⟩
  have hl : ((upI lo n).map fun i => Im.d (.int i)).length = n := by simp [upI]
  rw [hl]
  refine walk_range.mono (fun _ _ => trivial) fun i H x H' hi g y => ?_
  obtain ⟨rfl, rfl⟩ := y
  exact ⟨Same.refl _, .d (.int (lo + i)), by simp [upI, hi], .leaf (.inl ⟨rfl, .int _⟩)⟩
theorem i_rng1 {n : Int} (h : EvA c tr Γ kv [.int n]) (hn : n ≤ 1000000) (hn' : -1000000 ≤ n) : EvI c (iRng1 tr) Γ true ((upI 0 n.toNat).map fun i => Im.d (.int i)) := fun H0 O H σ e R q =>
  h H0 O H σ e _ fun vs H1 r s => by
    cases s with
    | cons b bs =>
      cases bs
      have := b.int'
      subst this
      exact ⟨n, rfl, by omega, by omega, q _ H1 r (i_range (e.on r).j)⟩
/-! ### comprehensions -/
theorem flatAll_one {d : PyData} {ds : List PyData} (h : flatAll ds = true) (m : d ∈ ds) : flatD d = true := by
  induction ds with
  | nil => simp at m
  | cons a l ih =>
    have q' : (flatD a && flatAll l) = true := h
    rw [Bool.and_eq_true] at q'
    rcases List.mem_cons.mp m with w | w
    · rw [w]; exact q'.1
    · exact ih q'.2 w
theorem ifFz {F : Hp} {H1 : Hp} {O : List Addr} (e : Env c H0 O H σ Γ) (r1 : Rr c H H1) (r : Rr c H1 H2) : Rr c (if fz then mns H1 O else H1) H2 ∧ (fz = true → Rr c (if fz then mns H1 O else H1) (mns H2 O)) := by
  cases fz with
  | true => exact ⟨(Rr.same mns_same).tr r, fun _ => r.mns (e.on r1).j e.okO⟩
  | false => exact ⟨r, fun h => nomatch h⟩
theorem n_lc {wi : TI} {g : TG} {vs : List Nat} {items : List Im} (M : Nat → List PyData → Prop) (hi : EvI c wi Γ fz items) (hl : items.length ≤ 1000000) (h0 : M 0 [])
    (hb : ∀ (n : Nat) (a : Im) (acc : List PyData), items[n]? = some a → M n acc → ∃ Γ' js, EvG c g a (wipeG Γ vs) Γ' js ∧ (∀ j ∈ js, j ∈ vs) ∧
      ∃ (b : Bool) (P : PyData → Prop), EvT c tt Γ' b ∧ (b = true → EvN c te Γ' .o P ∧ ∀ d, P d → M (n + 1) (acc ++ [d])) ∧ (b = false → M (n + 1) acc)) :
    EvN c (tLc wi g tt te vs) Γ .o (fun d => ∃ acc, d = .list acc ∧ M items.length acc) := fun H0 O H σ e Q q =>
  hi H0 O H σ e _ fun J H1 r1 w D hD => by
    obtain ⟨jF, w⟩ := w
    refine lc_it w (fun n H' => Rr c H1 H' ∧ ∃ acc ds fp, H' D = some (.lst acc) ∧ FoAll c H' acc ds fp ∧ fp.Nodup ∧ (∀ a ∈ fp, H1 a = none) ∧ D ∉ fp ∧ ds.length ≤ n ∧ M n ds) ?_ ?_ ?_ ?_
    · exact ⟨Rr.same fun b o z => by rw [upd_ne (ne_of_none z hD)]; exact z, [], [], [], upd_same, .nil, List.nodup_nil, (fun _ h => nomatch h), (fun h => nomatch h), Nat.le_refl _, h0⟩
    · intro n H' _ p
      exact (ifFz (F := H) e r1 p.1).1
    · rintro n x H' H'' hn ⟨p1, acc, ds, fp, p2, p3, p4, p5, p6, p7, p8⟩ ⟨sm, im, him, lo⟩
      have e2 : Env c H0 O H'' σ Γ := e.on ((r1.tr p1).tr (Rr.same sm))
      have fzz := ifFz (fz := fz) (F := H) e r1 (p1.tr (Rr.same sm))
      obtain ⟨Γ', js, hg, hjs, b, P, ht, hy, hno⟩ := hb n im ds him p8
      refine hg H0 O H'' _ _ fz x (e2.wipe vs) jF fzz.1 fzz.2 lo _ fun σ2 e3 hw => ⟨(hw vs hjs).trans (wipe_wipe fun _ h => h), ht H0 O H'' σ2 e3 _ fun H3 r3 => ?_⟩
      have p3' : FoAll c H'' acc ds fp := p3.up (fun _ _ s => sqT_same sm s) fun a _ o z => sm a o z
      have okf : ∀ a ∈ fp, okA c a := fun a ha => okA.fresh (e.on r1).jH (p5 a ha)
      have okD : okA c D := okA.fresh (e.on r1).jH hD
      have f3 : FoAll c H3 acc ds fp := p3'.up (fun _ _ s => r3.tup e2.jH s) fun a ha o z => r3.1 a o (okf a ha) z
      have D3 : H3 D = some (.lst acc) := r3.1 D _ okD (sm _ _ p2)
      have r13 : Rr c H1 H3 := (p1.tr (Rr.same sm)).tr r3
      cases b with
      | true =>
        refine iteT ?_
        obtain ⟨hyN, hyM⟩ := hy rfl
        refine hyN H0 O H3 σ2 (e3.on r3) _ fun v d H4 pd r4 s4 => ?_
        obtain ⟨fq, f4, nq, newq⟩ := s4
        have e3' := e3.on r3
        have D4 : H4 D = some (.lst acc) := r4.1 D _ okD D3
        have f3' : FoAll c H4 acc ds fp := f3.up (fun _ _ s => r4.tup e3'.jH s) fun a ha o z => r4.1 a o (okf a ha) z
        have Dq : D ∉ fq := fun z => by rw [newq D z] at D3; cases D3
        have all : FoAll c H4 (acc ++ [v]) (ds ++ [d]) (fp ++ (fq ++ [])) := f3'.app (.cons f4 .nil)
        rw [List.append_nil] at all
        have lacc : acc.length = ds.length := (f3'.bo okf).len
        have hle : ds.length ≤ 1000000 := by omega
        have nodq : ∀ a ∈ fp, a ∉ fq := fun a ha hq => by
          obtain ⟨xs, z⟩ := f3.isL a ha
          rw [newq a hq] at z; cases z
        refine ⟨acc, D4, by rw [lacc, sizeLine_eq]; omega, ?_, acc ++ [v], ds ++ [d], fp ++ fq, upd_same, ?_, ?_, ?_, ?_, by simp; omega, hyM d pd⟩
        · refine ⟨fun a o ok z => ?_, fun jj => ?_⟩
          · rw [upd_ne (ne_of_none z hD)]; exact (r13.tr r4).1 a o ok z
          · intro st l eq
            obtain ⟨ns, x, k, g1, g2, g3, g4⟩ := (r13.tr r4).2 jj st l eq
            have d1 : st ≠ D := fun z => by
              obtain ⟨ns', x', k', g1', _⟩ := jj st l eq
              rw [z, hD] at g1'; cases g1'
            have d2 : l ≠ D := fun z => by
              obtain ⟨ns', x', k', _, g2', _⟩ := jj st l eq
              rw [z, hD] at g2'; cases g2'
            exact ⟨ns, x, k, by rw [upd_ne d1]; exact g1, by rw [upd_ne d2]; exact g2, g3, g4⟩
        · refine all.up (fun _ _ s => sqT_upd D4 s) fun a ha o z => ?_
          have : a ≠ D := fun w => by
            subst w
            rcases List.mem_append.mp ha with u | u
            · exact p6 u
            · exact Dq u
          rw [upd_ne this]; exact z
        · rw [List.nodup_append]
          exact ⟨p4, nq, fun a ha b hb z => by subst z; exact nodq a ha hb⟩
        · intro a ha
          rcases List.mem_append.mp ha with u | u
          · exact p5 a u
          · exact r13.back (e.on r1).jH (newq a u)
        · intro z
          rcases List.mem_append.mp z with u | u
          · exact p6 u
          · exact Dq u
      | false =>
        exact iteF ⟨r13, acc, ds, fp, D3, f3, p4, p5, p6, by omega, hno rfl⟩
    · rintro H' ⟨p1, acc, ds, fp, p2, p3, p4, p5, p6, p7, p8⟩
      refine q (.ref D) (.list ds) H' ⟨ds, rfl, p8⟩ (r1.tr p1) ⟨D :: fp, .lst p2 p3, ?_, fun a ha => ?_⟩
      · exact List.nodup_cons.mpr ⟨p6, p4⟩
      · rcases List.mem_cons.mp ha with w | w
        · rw [w]; exact r1.back e.jH hD
        · exact r1.back e.jH (p5 a w)
theorem d_lc {α : Type} {wi : TI} {g : TG} {vs : List Nat} {l : List α} {en : α → Im} (p : α → Bool) (m : α → PyData) (hi : EvI c wi Γ fz (l.map en)) (hl : l.length ≤ 1000000)
    (hb : ∀ a ∈ l, ∃ Γ' js, EvG c g (en a) (wipeG Γ vs) Γ' js ∧ (∀ j ∈ js, j ∈ vs) ∧ EvT c tt Γ' (p a) ∧ (p a = true → Ev c te Γ' .o (m a))) :
    Ev c (tLc wi g tt te vs) Γ .o (.list ((l.filter p).map m)) := by
  refine ((n_lc (fun n acc => acc = ((l.take n).filter p).map m) hi (by simpa using hl) rfl ?_).imp ?_).det
  · intro n a acc hn hacc
    rw [List.getElem?_map] at hn
    cases ha : l[n]? with
    | none => rw [ha] at hn; cases hn
    | some a0 =>
      rw [ha] at hn
      have : en a0 = a := Option.some.inj hn
      subst this
      have tk : l.take (n + 1) = l.take n ++ [a0] := by
        rw [List.take_add_one, ha]; rfl
      obtain ⟨Γ', js, h1, h2, h3, h4⟩ := hb a0 (List.mem_of_getElem? ha)
      refine ⟨Γ', js, h1, h2, p a0, fun d => d = m a0, h3, fun hp => ⟨(h4 hp).n, fun d hd => ?_⟩, fun hp => ?_⟩
      · rw [hacc, tk, hd]; simp [hp]
      · rw [hacc, tk]; simp [hp]
  · rintro d ⟨acc, rfl, h⟩
    have : (l.map en).length = l.length := by simp
    rw [this, List.take_length] at h
    rw [h]
/-- without a test -/
theorem d_lcA {α : Type} {wi : TI} {g : TG} {vs : List Nat} {l : List α} {en : α → Im} (m : α → PyData) (hi : EvI c wi Γ fz (l.map en)) (hl : l.length ≤ 1000000)
    (hb : ∀ a ∈ l, ∃ Γ' js, EvG c g (en a) (wipeG Γ vs) Γ' js ∧ (∀ j ∈ js, j ∈ vs) ∧ Ev c te Γ' .o (m a)) :
    Ev c (tLc wi g tYes te vs) Γ .o (.list (l.map m)) := by
  have := d_lc (te := te) (tt := tYes) (g := g) (vs := vs) (fun _ => true) m hi hl fun a ha => by
    obtain ⟨Γ', js, h1, h2, h3⟩ := hb a ha
    exact ⟨Γ', js, h1, h2, t_yes, fun _ => h3⟩
  have e : l.filter (fun _ => true) = l := List.filter_eq_self.mpr fun _ _ => rfl
  rwa [e] at this
end Lm


namespace Lm
open PySem PySem.Spec PyProof.Rows L2
variable {c : Ct} {H H' H0 H1 H2 H3 : Hp} {O : List Addr} {σ : L2.St} {Γ Γ' Γ1 : List (Option Rs)}
variable {te ta tb tx tl : TE} {tt tu : TT} {tr : TA} {k ka kb : Kd} {d x y z : PyData} {i j : Int} {a b : Bool} {kv fz : Bool} {ds es : List PyData}

/-! ### how a statement ends -/
inductive Out where
  | nx (Γ : List (Option Rs))
  | rt (k : Kd) (d : PyData)
  | bk (Γ : List (Option Rs))
  | ct (Γ : List (Option Rs))
def Rt (c : Ct) (H0 H : Hp) (v : V) (d : PyData) : Kd → Prop
  | .v => flatD d = true ∧ Bo c H v d
  | .o => ∃ fp, Fo c H v d fp ∧ fp.Nodup ∧ ∀ a ∈ fp, H0 a = none
  | .b => (∃ x, c.so = some x) ∧ Bo c H v d
def Sat (c : Ct) (H0 : Hp) (D : Ends) : Out → Prop
  | .nx Γ => ∀ O H σ, Env c H0 O H σ Γ → D.nx σ H
  | .rt k d => ∀ v H, Rr c H0 H → Rt c H0 H v d k → D.rt v H
  | .bk Γ => ∀ O H σ, Env c H0 O H σ Γ → D.bk σ H
  | .ct Γ => ∀ O H σ, Env c H0 O H σ Γ → D.ct σ H
def Sd (c : Ct) (t : TS) (Γ : List (Option Rs)) (P : Out → Prop) : Prop :=
  ∀ H0 O H σ D, Env c H0 O H σ Γ → (∀ o, P o → Sat c H0 D o) → t D σ H
section
variable {t u w : TS} {P P1 : Out → Prop} {n : Nat}
theorem Env.back0 (e : Env c H0 O H σ Γ) {a : Addr} (h : mns H O a = none) : H0 a = none := by
  cases q : H0 a with
  | none => rfl
  | some o =>
    have k : okA c a := fun st l z w => by
      obtain ⟨ns, x, k, g1, _⟩ := e.j st l z
      rw [← w, h] at g1
      cases g1
    have := e.r0.1 a o k q
    rw [h] at this
    cases this
theorem s_next (h : P (.nx Γ)) : Sd c tNext Γ P := fun H0 O H σ D e s => s _ h O H σ e
theorem s_seq (h : Sd c t Γ P1) (hn : ∀ Γ1, P1 (.nx Γ1) → Sd c u Γ1 P) (hr : ∀ k d, P1 (.rt k d) → P (.rt k d)) (hb : ∀ Γ1, P1 (.bk Γ1) → P (.bk Γ1)) (hc : ∀ Γ1, P1 (.ct Γ1) → P (.ct Γ1)) : Sd c (tSeq t u) Γ P := fun H0 O H σ D e s =>
  h H0 O H σ _ e fun o po => match o with
    | .nx Γ1 => fun O1 H1 σ1 e1 => hn Γ1 po H0 O1 H1 σ1 D e1 s
    | .rt k d => fun v H1 r q => s _ (hr k d po) v H1 r q
    | .bk Γ1 => fun O1 H1 σ1 e1 => s _ (hb Γ1 po) O1 H1 σ1 e1
    | .ct Γ1 => fun O1 H1 σ1 e1 => s _ (hc Γ1 po) O1 H1 σ1 e1
theorem s_seq1 (h : Sd c t Γ (fun o => o = .nx Γ1)) (hn : Sd c u Γ1 P) : Sd c (tSeq t u) Γ P :=
  s_seq h (fun _ e => by cases e; exact hn) (fun _ _ e => nomatch e) (fun _ e => nomatch e) (fun _ e => nomatch e)
theorem Sd.imp (h : Sd c t Γ P1) (i : ∀ o, P1 o → P o) : Sd c t Γ P := fun H0 O H σ D e s => h H0 O H σ D e fun o po => s o (i o po)
/-- another description of the slots -/
theorem Sd.pre (h : Sd c t Γ1 P) (i : ∀ H0 O H σ, Env c H0 O H σ Γ → ∃ O', Env c H0 O' H σ Γ1) : Sd c t Γ P := fun H0 O H σ D e s => by
  obtain ⟨O', e'⟩ := i H0 O H σ e
  exact h H0 O' H σ D e' s
theorem s_freeze (h : Γ[n]? = some (some (.o d))) (hs : Sd c t (Γ.set n (some (.v d))) P) : Sd c t Γ P :=
  hs.pre fun H0 O H σ e => let ⟨O', e', _⟩ := e.freeze h; ⟨O', e'⟩
/-- what an expression gave is stored: to be returned -/
theorem Rt.of {v : V} (e : Env c H0 O H σ Γ) (r : Rr c H H2) (h : Res c O H H2 v d k) (hk : k = .o ∨ (k = .v ∧ flatD d = true)) : Rt c H0 H2 v d k := by
  rcases hk with rfl | ⟨rfl, f⟩
  · obtain ⟨fp, q, nd, new⟩ := h
    refine ⟨fp, q, nd, fun a ha => e.back0 ?_⟩
    have : a ∉ O := fun z => by
      obtain ⟨xs, w, _⟩ := e.dm a z
      rw [new a ha] at w; cases w
    rw [mns_out this]; exact new a ha
  · exact ⟨f, Bo.same mns_same h⟩
theorem s_ret (h : Ev c te Γ k d) (hk : k = .o ∨ (k = .v ∧ flatD d = true)) (p : P (.rt k d)) : Sd c (tRet te) Γ P := fun H0 O H σ D e s =>
  h H0 O H σ e _ fun v H2 r q => s _ p v H2 (e.rH.tr r) (Rt.of e r q hk)
theorem s_retN (Pd : PyData → Prop) (h : EvN c te Γ k Pd) (hk : k = .o ∨ (k = .v ∧ ∀ d, Pd d → flatD d = true)) (p : ∀ d, Pd d → P (.rt k d)) : Sd c (tRet te) Γ P := fun H0 O H σ D e s =>
  h H0 O H σ e _ fun v d H2 pd r q => s _ (p d pd) v H2 (e.rH.tr r) (Rt.of e r q (hk.imp id fun w => ⟨w.1, w.2 d pd⟩))
/-- a list of one's own is returned -/
theorem s_retO (h : Γ[n]? = some (some (.o d))) (p : P (.rt .o d)) : Sd c (tRet (tVar n)) Γ P := fun H0 O H σ D e s => by
  obtain ⟨v, fp, hv, f, nd, sub⟩ := e.slotO h
  exact ⟨v, hv, s _ p v H e.rH ⟨fp, f, nd, fun a ha => e.fr a (sub a ha)⟩⟩
theorem s_asg (h : Ev c te Γ .v d) (p : P (.nx (Γ.set n (some (.v d))))) : Sd c (tAsg te (gName n)) Γ P := fun H0 O H σ D e s =>
  h H0 O H σ e _ fun v H2 r q => s _ p O H2 _ ((e.on r).setV q)
theorem s_asgO (h : Ev c te Γ .o d) (p : P (.nx (Γ.set n (some (.o d))))) : Sd c (tAsg te (gName n)) Γ P := fun H0 O H σ D e s =>
  h H0 O H σ e _ fun v H2 r ⟨fp, f, nd, new⟩ => s _ p _ H2 _ (e.setO r f nd new)
theorem q_asg (h : Ev c te Γ .v d) (p : Sd c u (Γ.set n (some (.v d))) P) : Sd c (tSeq (tAsg te (gName n)) u) Γ P := s_seq1 (s_asg h rfl) p
theorem q_asgO (h : Ev c te Γ .o d) (p : Sd c u (Γ.set n (some (.o d))) P) : Sd c (tSeq (tAsg te (gName n)) u) Γ P := s_seq1 (s_asgO h rfl) p
theorem q_asgN (Pd : PyData → Prop) (h : EvN c te Γ .v Pd) (p : ∀ d, Pd d → Sd c u (Γ.set n (some (.v d))) P) : Sd c (tSeq (tAsg te (gName n)) u) Γ P := fun H0 O H σ D e s =>
  h H0 O H σ e _ fun v d H2 pd r q => p d pd H0 O H2 _ D ((e.on r).setV q) s
theorem q_asgNO (Pd : PyData → Prop) (h : EvN c te Γ .o Pd) (p : ∀ d, Pd d → Sd c u (Γ.set n (some (.o d))) P) : Sd c (tSeq (tAsg te (gName n)) u) Γ P := fun H0 O H σ D e s =>
  h H0 O H σ e _ fun v d H2 pd r ⟨fp, f, nd, new⟩ => p d pd H0 _ H2 _ D (e.setO r f nd new) s
theorem q_drop (h : Ev c te Γ k d) (p : Sd c u Γ P) : Sd c (tSeq (tDrop te) u) Γ P := fun H0 O H σ D e s =>
  h H0 O H σ e _ fun v H2 r q => p H0 O H2 σ D (e.on r) s
theorem s_drop (h : Ev c te Γ k d) (p : P (.nx Γ)) : Sd c (tDrop te) Γ P := fun H0 O H σ D e s =>
  h H0 O H σ e _ fun v H2 r q => s _ p O H2 σ (e.on r)
theorem s_if (h : EvT c tt Γ a) (h1 : a = true → Sd c t Γ P) (h2 : a = false → Sd c u Γ P) : Sd c (tIfS tt t u) Γ P := fun H0 O H σ D e s =>
  h H0 O H σ e _ fun H2 r => by
    cases a with
    | true => exact iteT (h1 rfl H0 O H2 σ D (e.on r) s)
    | false => exact iteF (h2 rfl H0 O H2 σ D (e.on r) s)
theorem s_ifN (h : EvTN c tt Γ) (h1 : Sd c t Γ P) (h2 : Sd c u Γ P) : Sd c (tIfS tt t u) Γ P := fun H0 O H σ D e s =>
  h H0 O H σ e _ fun b H2 r => by
    cases b with
    | true => exact iteT (h1 H0 O H2 σ D (e.on r) s)
    | false => exact iteF (h2 H0 O H2 σ D (e.on r) s)
/-- if, then the rest -/
theorem q_if (h : EvT c tt Γ a) (h1 : a = true → Sd c (tSeq t w) Γ P) (h2 : a = false → Sd c (tSeq u w) Γ P) : Sd c (tSeq (tIfS tt t u) w) Γ P := fun H0 O H σ D e s =>
  h H0 O H σ e _ fun H2 r => by
    cases a with
    | true => exact iteT (h1 rfl H0 O H2 σ D (e.on r) s)
    | false => exact iteF (h2 rfl H0 O H2 σ D (e.on r) s)
theorem q_next (h : Sd c u Γ P) : Sd c (tSeq tNext u) Γ P := fun H0 O H σ D e s => h H0 O H σ D e s
theorem q_ret (h : Ev c te Γ k d) (hk : k = .o ∨ (k = .v ∧ flatD d = true)) (p : P (.rt k d)) : Sd c (tSeq (tRet te) u) Γ P := fun H0 O H σ D e s =>
  h H0 O H σ e _ fun v H2 r q => s _ p v H2 (e.rH.tr r) (Rt.of e r q hk)
/-- if that surely is not so (or is) -/
theorem q_no (h : EvT c tt Γ false) (h2 : Sd c w Γ P) : Sd c (tSeq (tIfS tt t tNext) w) Γ P := q_if h (fun e => nomatch e) (fun _ => q_next h2)
theorem s_no (h : EvT c tt Γ false) (h2 : Sd c u Γ P) : Sd c (tIfS tt t u) Γ P := s_if h (fun e => nomatch e) (fun _ => h2)
/-- xs.append(e) -/
theorem s_app (hx : Γ[n]? = some (some (.o (.list ds)))) (h : Ev c te Γ k d) (hf : flatD d = true) (hl : ds.length < 1000000) (p : P (.nx (Γ.set n (some (.o (.list (ds ++ [d]))))))) : Sd c (tDrop (tBM c.K "list" rAppend (tVar n) (tCons te tNil))) Γ P := fun H0 O H σ D e s => by
  obtain ⟨q, xs, f, hq, hp, fa, qf, qO, _⟩ := e.write (es := ds ++ [d]) hx
  refine ⟨.ref q, hq, .inl ⟨rfl, xs, .inl (.inl hp)⟩, h H0 O H σ e _ fun v H2 r rs => ?_⟩
  have e2 := e.on r
  obtain ⟨q', xs', f', hq', hp', fa', qf', qO', wr⟩ := e2.write (es := ds ++ [d]) hx
  have : q' = q := by rw [hq] at hq'; cases hq'; rfl
  subst this
  have bo : Bo c H2 v d := Res.bo e rs
  have lx : xs'.length = ds.length := (fa'.bo fun a ha => e.okO a (qO' a ha)).len
  refine ⟨q', xs', v, rfl, rfl, hp', by rw [lx, sizeLine_eq]; omega, s _ p O _ σ (wr (xs' ++ [v]) ?_)⟩
  have := fa'.app (.cons (.leaf hf bo) .nil : FoAll c H2 [v] [d] ([] ++ []))
  rw [List.append_nil, List.append_nil] at this
  exact this.up (fun _ _ s => sqT_upd hp' s) fun a ha o z => by
    have : a ≠ q' := fun w => qf' (w ▸ ha)
    rw [upd_ne this]; exact z
theorem q_app (hx : Γ[n]? = some (some (.o (.list ds)))) (h : Ev c te Γ k d) (hf : flatD d = true) (hl : ds.length < 1000000) (p : Sd c u (Γ.set n (some (.o (.list (ds ++ [d]))))) P) : Sd c (tSeq (tDrop (tBM c.K "list" rAppend (tVar n) (tCons te tNil))) u) Γ P :=
  s_seq1 (s_app hx h hf hl rfl) p
theorem FoAll.set0 : ∀ {v : List V} {d : List PyData} {m : Nat} {x : V} {e : PyData}, FoAll c H v d [] → flatD e = true → Bo c H x e → FoAll c H (v.set m x) (d.set m e) [] := by
  intro v
  induction v with
  | nil =>
    intro d m x e h q b
    cases h
    exact .nil
  | cons v0 v ih =>
    intro d m x e h q b
    generalize hz : ([] : List Addr) = z at h
    cases h with
    | cons a r =>
      obtain ⟨h1, h2⟩ := List.append_eq_nil_iff.mp hz.symm
      subst h1
      subst h2
      cases m with
      | zero => exact .cons (f := []) (fs := []) (.leaf q b) r
      | succ m => exact .cons (f := []) (fs := []) a (ih r q b)
/-- xs[i] = e, xs a list of flat things -/
theorem s_setI (hx : Γ[n]? = some (some (.o (.list ds)))) (hds : flatAll ds = true) (h : Ev c te Γ k d) (hf : flatD d = true) (hi : Ev c ta Γ ka (.int (i : Int))) (hj : ixN ds.length i = some m) (p : P (.nx (Γ.set n (some (.o (.list (ds.set m d))))))) : Sd c (tAsg te (gSub (tVar n) ta rSetL)) Γ P := fun H0 O H σ D e s =>
  h H0 O H σ e _ fun v H2 r rs => by
    have e2 := e.on r
    obtain ⟨q, xs, f, hq, hp, fa, qf, qO, _⟩ := e2.write (es := ds.set m d) hx
    refine ⟨.ref q, hq, hi H0 O H2 σ e2 _ fun w H3 r3 ws => ?_⟩
    have e3 := e2.on r3
    obtain ⟨q', xs', f', hq', hp', fa', qf', qO', wr⟩ := e3.write (es := ds.set m d) hx
    have : q' = q := by rw [hq] at hq'; cases hq'; rfl
    subst this
    have bo : Bo c H3 v d := Res.bo e (Res.on e r r3 rs)
    have lx : xs'.length = ds.length := (fa'.bo fun a ha => e.okO a (qO' a ha)).len
    refine ⟨q', xs', i, m, rfl, (Res.bo e2 ws).int', hp', by rw [lx]; exact hj, s _ p O _ σ (wr _ ?_)⟩
    obtain ⟨rfl, ba⟩ := fa'.flat0 hds
    exact (FoAll.set0 fa' hf bo).up (fun _ _ s => sqT_upd hp' s) fun a ha => nomatch ha
/-! ### for -/
theorem s_for {wi : TI} {g : TG} {tb : TS} {items : List Im} (hi : EvI c wi Γ true items) (I : Nat → List (Option Rs) → Prop) (h0 : I 0 Γ)
    (hs : ∀ n a Γ1, items[n]? = some a → I n Γ1 → ∃ Γ2 js, EvG c g a Γ1 Γ2 js ∧
      Sd c tb Γ2 (fun o => (∃ Γ3, (o = .nx Γ3 ∨ o = .ct Γ3) ∧ I (n + 1) Γ3) ∨ (∃ Γ3, o = .bk Γ3 ∧ P (.nx Γ3)) ∨ ∃ k d, o = .rt k d ∧ P o))
    (hd : ∀ Γ1, I items.length Γ1 → P (.nx Γ1)) : Sd c (tFor wi g tb) Γ P := fun H0 O H σ D e s =>
  hi H0 O H σ e _ fun J H1 r1 w => by
    obtain ⟨jF, w⟩ := w
    have e1 := e.on r1
    refine for_it w (fun n σ' H' => ∃ O' Γ', I n Γ' ∧ Env c (mns H1 O) O' H' σ' Γ') ⟨O, Γ, h0, e1.base⟩ ?_ ?_ ?_
    · rintro n σ' H' _ ⟨O', Γ', _, e'⟩
      exact e'.rH
    · rintro n x σ' H' H'' hn ⟨O', Γ', hI, e'⟩ ⟨sm, im, him, lo⟩
      have e2 := e'.on (Rr.same sm)
      obtain ⟨Γ2, js, hg, hb⟩ := hs n im Γ' him hI
      refine hg _ _ _ _ _ true x e2 jF e2.rH (fun _ => e2.r0) lo _ fun σ2 e3 _ => hb _ _ _ _ _ e3 fun o po => ?_
      rcases po with ⟨Γ3, ho, h3⟩ | ⟨Γ3, ho, h3⟩ | ⟨k, d, ho, h3⟩
      · rcases ho with rfl | rfl
        · exact fun O4 H4 σ4 e4 => ⟨O4, Γ3, h3, e4⟩
        · exact fun O4 H4 σ4 e4 => ⟨O4, Γ3, h3, e4⟩
      · subst ho
        exact fun O4 H4 σ4 e4 => s _ h3 O4 H4 σ4 (e1.fromB e4)
      · subst ho
        intro v H4 r4 rt
        refine s _ h3 v H4 ((e.r0.tr (r1.mns e.j e.okO)).tr r4) ?_
        cases k with
        | v => exact rt
        | o =>
          obtain ⟨fp, q, nd, new⟩ := rt
          exact ⟨fp, q, nd, fun a ha => e1.back0 (new a ha)⟩
        | b => exact rt
    · rintro σ' H' ⟨O', Γ', hI, e'⟩
      exact s _ (hd Γ' hI) O' H' σ' (e1.fromB e')
theorem q_for {wi : TI} {g : TG} {tb : TS} {items : List Im} (hi : EvI c wi Γ true items) (I : Nat → List (Option Rs) → Prop) (h0 : I 0 Γ)
    (hs : ∀ n a Γ1, items[n]? = some a → I n Γ1 → ∃ Γ2 js, EvG c g a Γ1 Γ2 js ∧
      Sd c tb Γ2 (fun o => (∃ Γ3, (o = .nx Γ3 ∨ o = .ct Γ3) ∧ I (n + 1) Γ3) ∨ (∃ Γ3, o = .bk Γ3 ∧ Sd c u Γ3 P) ∨ ∃ k d, o = .rt k d ∧ P o))
    (hd : ∀ Γ1, I items.length Γ1 → Sd c u Γ1 P) : Sd c (tSeq (tFor wi g tb) u) Γ P :=
  s_seq (P1 := fun o => match o with | .nx Γ3 => Sd c u Γ3 P | .rt k d => P (.rt k d) | _ => False)
    (s_for hi I h0 (fun n a Γ1 h1 h2 => by
      obtain ⟨Γ2, js, hg, hb⟩ := hs n a Γ1 h1 h2
      refine ⟨Γ2, js, hg, hb.imp fun o po => ?_⟩
      rcases po with w | ⟨Γ3, ho, h3⟩ | ⟨k, d, ho, h3⟩
      · exact .inl w
      · exact .inr (.inl ⟨Γ3, ho, h3⟩)
      · subst ho; exact .inr (.inr ⟨k, d, rfl, h3⟩)) hd) (fun _ h => h) (fun _ _ h => h) (fun _ h => h.elim) (fun _ h => h.elim)
end

/-! ### new tuples and lists; built-ins -/
theorem newTk {xs : List V} {Q : VK} (h : ∀ p H2, H p = none → Same H H2 → TpN c.K H2 p xs → Q (.ref p) H2) : NewT H xs Q := fun p o ho hp =>
  h p _ hp (fun b u z => by rw [upd_ne (ne_of_none z hp)]; exact z) (.inl ⟨o, ho, upd_same⟩)
theorem BoAll.vm {O : List Addr} {vs : List V} (h : BoAll c (if true = true then mns H O else H) vs ds) : BoAll c (mns H O) vs ds := h
theorem tpN_mns (e : Env c H0 O H σ Γ) (r : Rr c H H2) {p : Addr} {xs : List V} (h : TpN c.K H2 p xs) : TpN c.K (mns H2 O) p xs := sqT_mns (fun b hb => (e.on r).dm b hb) h
theorem d_tup (h : EvA c tr Γ true ds) (hl : ds.length ≤ 1000000) : Ev c (tTupN tr) Γ .v (.tuple ds) := fun H0 O H σ e Q q =>
  h H0 O H σ e _ fun vs H1 r s => by
    have s' := BoAll.vm s
    refine ⟨by rw [s'.len]; exact sizeOk hl, newTk (c := c) fun p H2 hp sm tp => q _ H2 (r.tr (Rr.same sm)) ?_⟩
    have r2 : Rr c H H2 := r.tr (Rr.same sm)
    exact .tup (tpN_mns e r2 tp) (s'.mono (e.on r).j ((Rr.same sm : Rr c H1 H2).mns (e.on r).j e.okO))
theorem d_lst (h : EvA c tr Γ kv ds) (hf : flatAll ds = true) (hl : ds.length ≤ 1000000) : Ev c (tLst tr) Γ .o (.list ds) := fun H0 O H σ e Q q =>
  h H0 O H σ e _ fun vs H1 r s => by
    have s' : BoAll c H1 vs ds := by
      cases kv with
      | true => exact BoAll.same mns_same (BoAll.vm s)
      | false => exact s
    refine ⟨by rw [s'.len]; exact sizeOk hl, fun p hp => q _ _ (r.tr (Rr.same fun b u z => by rw [upd_ne (ne_of_none z hp)]; exact z)) ?_⟩
    have sm : Same H1 (upd H1 p (.lst vs)) := fun b u z => by rw [upd_ne (ne_of_none z hp)]; exact z
    exact ⟨[p], .lst upd_same (FoAll.leaves hf (s'.same sm)), by simp, fun a ha => by
      have : a = p := by simpa using ha
      rw [this]; exact r.back e.jH hp⟩
/-- a call by values -/
theorem d_cb {r : List V → Hp → VK → Prop} (h : EvA c tr Γ false ds) (hr : ∀ H O vs (Q : VK), BoAll c H vs ds → (∀ v H2, Rr c H H2 → Bo c (mns H2 O) v z → Q v H2) → r vs H Q) : Ev c (tCB r tr) Γ .v z := fun H0 O H σ e Q q =>
  h H0 O H σ e _ fun vs H1 r1 s => hr H1 O vs Q s fun v H2 r2 b => q v H2 (r1.tr r2) b
theorem BoAll.one {v : List V} (h : BoAll c H v [d]) : ∃ x, v = [x] ∧ Bo c H x d := by
  cases h with
  | cons a b => cases b; exact ⟨_, rfl, a⟩
theorem BoAll.two {v : List V} (h : BoAll c H v [d, x]) : ∃ y z, v = [y, z] ∧ Bo c H y d ∧ Bo c H z x := by
  cases h with
  | cons a b =>
    cases b with
    | cons a' b => cases b; exact ⟨_, _, rfl, a, a'⟩
def rLen (K : PySem.W.Frag) : List V → Hp → VK → Prop := fun xs H Q => ∃ p ys, xs = [.ref p] ∧ (SqL K H p ys ∨ SqT K H p ys) ∧ Q (.int ys.length) H
theorem d_lenT (h : Ev c te Γ k (.tuple ds)) : Ev c (tCB (rLen c.K) (tCons te tNil)) Γ .v (.int ds.length) :=
  d_cb (a_cons h a_nil) fun H O vs Q s q => by
    obtain ⟨x, rfl, b⟩ := s.one
    obtain ⟨p, xs, rfl, s, al⟩ := b.tup'
    exact ⟨p, xs, rfl, .inr s.sq, by rw [al.len]; exact q _ H Rr.rf (.int _)⟩
theorem d_lenL (h : Ev c te Γ k (.list ds)) : Ev c (tCB (rLen c.K) (tCons te tNil)) Γ .v (.int ds.length) :=
  d_cb (a_cons h a_nil) fun H O vs Q s q => by
    obtain ⟨x, rfl, b⟩ := s.one
    obtain ⟨p, xs, rfl, _, s, al⟩ := b.lst'
    exact ⟨p, xs, rfl, .inl s, by rw [al.len]; exact q _ H Rr.rf (.int _)⟩
theorem d_all {bs : List Bool} (h : Ev c te Γ k (.list (bs.map .bool))) : Ev c (tCB (rAll c.K) (tCons te tNil)) Γ .v (.bool (bs.all id)) :=
  d_cb (a_cons h a_nil) fun H O vs Q s q => by
    obtain ⟨x, rfl, b⟩ := s.one
    obtain ⟨p, xs, rfl, _, s, al⟩ := b.lst'
    have := al.bools
    subst this
    exact ⟨p, bs, rfl, s, q _ H Rr.rf (.bl _)⟩
theorem n_tuple {P : List PyData → Prop} (h : EvN c te Γ k (fun d => ∃ ds, d = .list ds ∧ P ds)) (hf : ∀ ds, P ds → flatAll ds = true) : EvN c (tCB (rTuple c.K) (tCons te tNil)) Γ .v (fun d => ∃ ds, d = .tuple ds ∧ P ds) := fun H0 O H σ e Q q =>
  h H0 O H σ e _ fun v d H1 ⟨ds, hd, pd⟩ r s => by
    subst hd
    obtain ⟨p, xs, rfl, _, sl, al⟩ := (Res.bo e s).lst'
    refine ⟨p, xs, rfl, .inl ⟨sl, newTk (c := c) fun p' H2 hp sm tp => q _ (.tuple ds) H2 ⟨ds, rfl, pd⟩ (r.tr (Rr.same sm)) ?_⟩⟩
    have r2 : Rr c H H2 := r.tr (Rr.same sm)
    exact .tup (tpN_mns e r2 tp) ((al.same sm).flatTo (fun a xs s => sqT_mns (fun b hb => (e.on r2).dm b hb) s) (hf ds pd))
theorem d_tuple (h : Ev c te Γ k (.list ds)) (hf : flatAll ds = true) : Ev c (tCB (rTuple c.K) (tCons te tNil)) Γ .v (.tuple ds) :=
  ((n_tuple (P := fun es => es = ds) (h.n.imp fun d hd => ⟨ds, hd, rfl⟩) fun es he => he ▸ hf).imp fun d ⟨es, h1, h2⟩ => by rw [h1, h2]).det
end Lm


namespace Lm
open PySem PySem.Spec PyProof.Rows L2
variable {c : Ct} {H H' H0 H1 H2 H3 : Hp} {O : List Addr} {σ : L2.St} {Γ Γ' Γ1 : List (Option Rs)}
variable {te ta tb tx tl : TE} {tt tu : TT} {tr : TA} {k ka kb : Kd} {d x y z : PyData} {i j : Int} {a b : Bool} {kv fz : Bool} {ds es : List PyData}

/-! ### promises of defs over data -/
abbrev pc (K : PySem.W.Frag) : Ct := ⟨K, none⟩
/-- args, how the answer is held, the answer -/
abbrev Pre := List PyData → Kd → PyData → Prop
def spD (K : PySem.W.Frag) (pre : Pre) : Sp := fun vs H Q _ => ∃ ds k d, BoAll (pc K) H vs ds ∧ pre ds k d ∧ ∀ v H', Same H H' → Rt (pc K) H H' v d k → Q v H'
/-- with the stream first: one of several answers -/
abbrev PreS := List PyData → Kd → (PyData → Prop) → Prop
abbrev sc (K : PySem.W.Frag) (st l : Addr) : Ct := ⟨K, some (st, l)⟩
def spS (K : PySem.W.Frag) (pre : PreS) : Sp := fun vs H Q _ => ∃ st l vs' ds k P, vs = .ref st :: vs' ∧ Str1 K st l H ∧ BoAll (sc K st l) H vs' ds ∧ pre ds k P ∧ ∀ v d H', P d → Rr (sc K st l) H H' → Rt (sc K st l) H H' v d k → Q v H'
mutual
theorem Fo.ct {c' : Ct} (hk : c'.K = c.K) : ∀ {v : V} {d : PyData} {fp : List Addr}, Fo c H v d fp → Fo c' H v d fp
  | _, _, _, .leaf q b => .leaf q (b.flat hk q)
  | _, _, _, .lst e a => .lst e (FoAll.ct hk a)
theorem FoAll.ct {c' : Ct} (hk : c'.K = c.K) : ∀ {v : List V} {d : List PyData} {fp : List Addr}, FoAll c H v d fp → FoAll c' H v d fp
  | _, _, _, .nil => .nil
  | _, _, _, .cons a b => .cons (Fo.ct hk a) (FoAll.ct hk b)
end
theorem Rt.res {v : V} (e : Env c H0 O H σ Γ) (r : Rr c H H2) (h : Rt c H H2 v d k) : Res c O H H2 v d k := by
  cases k with
  | v => exact Bo.flatM e r h.1 h.2
  | o => exact h
  | b => exact h.2
theorem d_call {pre : Pre} {E : XK} (h : EvA c tr Γ false ds) (hp : pre ds k d) : Ev c (tCall (spD c.K pre) [] E tr) Γ k d := fun H0 O H σ e Q q =>
  h H0 O H σ e _ fun vs H1 r s => by
    refine ⟨ds, k, d, by rw [List.append_nil]; exact s.pure, hp, fun v H2 sm rt => q v H2 (r.tr (Rr.same sm)) ?_⟩
    have r2 : Rr c H H2 := r.tr (Rr.same sm)
    cases k with
    | v => exact (Bo.flat (c := pc c.K) (c' := c) rfl rt.1 rt.2).flatM e r2 rt.1
    | o =>
      obtain ⟨fp, f, nd, new⟩ := rt
      exact ⟨fp, Fo.ct (c := pc c.K) (c' := c) rfl f, nd, fun a ha => r.back e.jH (new a ha)⟩
    | b => obtain ⟨⟨_, e⟩, _⟩ := rt; exact nomatch e
theorem n_call {pre : PreS} {E : XK} {st l : Addr} {P : PyData → Prop} {n : Nat} (hc : c.so = some (st, l)) (hst : Γ[n]? = some (some (.r (.ref st)))) (h : EvA c tr Γ false ds) (hp : pre ds k P) :
    EvN c (tCall (spS c.K pre) [] E (tCons (tVar n) tr)) Γ k P := fun H0 O H σ e Q q => by
  have hcc : c = sc c.K st l := by cases c; cases hc; rfl
  refine ⟨_, e.slotR hst, h H0 O H σ e _ fun vs H1 r s => ?_⟩
  refine ⟨st, l, vs, ds, k, P, by simp, (e.on r).jH st l hc, by rw [← hcc]; exact s, hp, fun v d H2 pd r2 rt => ?_⟩
  rw [← hcc] at r2 rt
  refine q v d H2 pd (r.tr r2) ?_
  exact (Rt.res (e.on r) r2 rt).back e r
/-! ### a def's body -/
def argsG (ds : List PyData) (n : Nat) : List (Option Rs) := ds.map (fun d => some (.v d)) ++ List.replicate (n - ds.length) none
theorem reps_none {O : List Addr} : ∀ n : Nat, Reps c O H (List.replicate n none) (List.replicate n none) []
  | 0 => .nil
  | n + 1 => .cons (f := []) (fs := []) rfl (reps_none n)
theorem reps_args {O : List Addr} {rest : L2.St} {restG : List (Option Rs)} (hr : Reps c O H rest restG []) : ∀ {vs : List V} {ds : List PyData}, BoAll c (mns H O) vs ds → Reps c O H (vs.map some ++ rest) (ds.map (fun d => some (.v d)) ++ restG) []
  | _, _, .nil => hr
  | _, _, .cons a b => .cons (f := []) (fs := []) ⟨rfl, _, rfl, a⟩ (reps_args hr b)
theorem env_args {N : List Str} {vs : List V} (j : Ji c H) (h : BoAll c H vs ds) : Env c H [] H (start N vs) (argsG ds N.length) := by
  refine ⟨Rr.same (by rw [mns_nil]; exact Same.refl _), by rw [mns_nil]; exact j, (fun _ h => nomatch h), (fun _ h => nomatch h), [], ?_, List.nodup_nil, (fun _ h => nomatch h)⟩
  unfold L2.start argsG
  rw [h.len]
  exact reps_args (reps_none _) (by rw [mns_nil]; exact h)
theorem Ji.pc {K : PySem.W.Frag} {H : Hp} : Ji (pc K) H := fun _ _ e => nomatch e
/-- the body of a def without the stream -/
theorem run_pure {K : PySem.W.Frag} {N : List Str} {t : TS} {pre : Pre} {vs : List V} {Q : VK} {E : XK} (hs : ∀ ds k d, pre ds k d → Sd (pc K) t (argsG ds N.length) (fun o => o = .rt k d ∨ (k = .v ∧ d = .none ∧ ∃ Γ, o = .nx Γ)))
    (h : spD K pre vs H Q E) : t { nx := fun _ H' => Q .non H', rt := Q } (start N vs) H := by
  obtain ⟨ds, k, d, hb, hp, hq⟩ := h
  have sm : ∀ H', Rr (Lm.pc K) H H' → Same H H' := fun H' r a o z => r.1 a o (fun _ _ e => nomatch e) z
  refine hs ds k d hp H [] H (start N vs) _ (env_args Ji.pc hb) fun o po => ?_
  rcases po with rfl | ⟨rfl, rfl, Γ, rfl⟩
  · exact fun v H' r rt => hq v H' (sm H' r) rt
  · intro O H' σ e
    exact hq .non H' (sm H' (e.r0.tr (Rr.same mns_same))) ⟨rfl, .non⟩
theorem spD_len {K : PySem.W.Frag} {pre : Pre} {vs : List V} {Q : VK} {E : XK} {n : Nat} (h : spD K pre vs H Q E) (hl : ∀ ds k d, pre ds k d → ds.length = n) : vs.length = n := by
  obtain ⟨ds, k, d, hb, hp, _⟩ := h
  rw [hb.len, hl ds k d hp]
/-- the body of a def with the stream first -/
theorem run_str {K : PySem.W.Frag} {N : List Str} {t : TS} {pre : PreS} {vs : List V} {Q : VK} {E : XK}
    (hs : ∀ st l ds k P, pre ds k P → Sd (sc K st l) t (some (.r (.ref st)) :: (ds.map (fun d => some (.v d)) ++ List.replicate (N.length - (ds.length + 1)) none)) (fun o => ∃ d, o = .rt k d ∧ P d))
    (h : spS K pre vs H Q E) : t { nx := fun _ H' => Q .non H', rt := Q } (start N vs) H := by
  obtain ⟨st, l, vs', ds, k, P, rfl, hst, hb, hp, hq⟩ := h
  have j : Ji (sc K st l) H := fun st' l' e => by cases e; exact hst
  refine hs st l ds k P hp H [] H (start N (.ref st :: vs')) _ ⟨Rr.same (by rw [mns_nil]; exact Same.refl _), by rw [mns_nil]; exact j, (fun _ h => nomatch h), (fun _ h => nomatch h), [], ?_, List.nodup_nil, (fun _ h => nomatch h)⟩ fun o po => ?_
  · unfold L2.start
    have : (V.ref st :: vs').length = ds.length + 1 := by simp [hb.len]
    rw [this]
    exact .cons (f := []) (fs := []) ⟨rfl, rfl⟩ (reps_args (reps_none _) (by rw [mns_nil]; exact hb))
  · obtain ⟨d, rfl, pd⟩ := po
    exact fun v H' r rt => hq v d H' pd r rt
theorem spS_len {K : PySem.W.Frag} {pre : PreS} {vs : List V} {Q : VK} {E : XK} {n : Nat} (h : spS K pre vs H Q E) (hl : ∀ ds k P, pre ds k P → ds.length + 1 = n) : vs.length = n := by
  obtain ⟨st, l, vs', ds, k, P, rfl, _, hb, hp, _⟩ := h
  simp [hb.len, hl ds k P hp]
/-- what a caller knows of a def: where it stands, what it promises -/
structure Cal (P : Program) (w : World) (K : PySem.W.Frag) (mg : Str → Option Value) (base : Heap) (CX : CXT) (k : Nat) (x : Str) (ps : List Str) (sp : Sp) : Prop where
  ok : ∃ f fd, FnOk P w K mg base CX k f fd ps sp ∧ mg x = some (.ref f) ∧ PySem.W.keepIn K (.ref f) = true ∧ Binds K fd ps []
section
variable {X : Cx}
theorem pe_cal {CX : CXT} {E : XK} {k : Nat} {x : Str} {ps : List Str} {sp : Sp} {p pos : Pos} {e : Expr} {es : List Expr} {t : TA} (F : Cal X.prog X.w X.K X.mg X.base CX k x ps sp) (hr : Room k X.A) (hg : Gl X x) (hx : Passes CX X E) (ha : PA X (e :: es) t)
    (hdb : (x == ("__debug__" : Str)) = false := by decide) (he : starEach (e :: es) X.env = (false, eval e X.env) :: starEach es X.env := by rfl) (hpl : (backTo pos (starEach es X.env)).any (·.1) = false := by rfl) :
    PE X (.Call (.Name x p) (e :: es) [] pos) (tCall sp [] E t) := by
  obtain ⟨f, fd, F1, F2, F3, F4⟩ := F.ok
  exact pe_call F1 hr hg F2 F3 F4 .nil hx ha hdb he hpl
end
/-! ### methods of tuples -/
theorem d_count {ns : List Int} (h : Ev c ta Γ ka (.tuple (ns.map .int))) (hb : Ev c tb Γ kb (.int i)) : Ev c (tTM c.K (rCountT c.K) ta (tCons tb tNil)) Γ .v (.int (ns.count i : Nat)) := fun H0 O H σ e Q q =>
  h H0 O H σ e _ fun v H1 r1 s1 => by
    obtain ⟨p, xs, rfl, s, al⟩ := (Res.bo e s1).tup'
    refine ⟨⟨p, xs, rfl, s⟩, hb H0 O H1 σ (e.on r1) _ fun u H2 r2 s2 => ?_⟩
    obtain ⟨p', xs', e', s', al'⟩ := (Res.bo e (Res.on e r1 r2 s1)).tup'
    cases e'
    have := al'.ints
    subst this
    exact ⟨p, ns, i, rfl, by rw [(Res.bo (e.on r1) s2).int'], s'.sq, q _ H2 (r1.tr r2) (.int _)⟩
end Lm


namespace Lm
open PySem PySem.Spec PyProof.Rows L2
/-! ### enumerate(tuple) -/
/-- the turns of enumerate over the tuple at a: its items as they stand, each in a pair -/
def IteT (K : PySem.W.Frag) (a : Addr) : It where
  go := fun i H => ∃ (xs : List V) (x : V), SqT K H a xs ∧ xs[i]? = some x
  yld := fun i H v H' => ∃ T x, v = .ref T ∧ H T = none ∧ H' = upd H T (.tup [.int (i : Nat), x]) ∧ ∀ xs, SqT K H a xs → xs[i]? = some x
  stop := fun i H => ∃ xs : List V, SqT K H a xs ∧ xs.length = i
theorem turnEnumT {P : Program} {w : World} {K : PySem.W.Frag} {elts : List Expr} {kk : Nat} {tpos : Pos} (a e it : Addr) :
    Turn P w K (.Tuple elts kk tpos) (IteT K a) [e, it] e fun i h => (∃ old, IsEnum h e it ((i : Nat) : Int) old) ∧ h.IsTupleIter it a i ∧ e ≠ it ∧ a ≠ it where
  mem := List.mem_cons_self
  obj := by
    rintro i h ⟨⟨old, he⟩, ⟨o, ho, hc, hd⟩, _⟩ b hb
    rcases List.mem_cons.mp hb with rfl | hb
    · exact ⟨_, he, fun v q => nomatch q⟩
    · cases List.mem_singleton.mp hb
      exact ⟨o, ho, fun v q => by rw [hd] at q; cases q⟩
  keep := by
    rintro i h h' ⟨⟨old, he⟩, hi, hne⟩ k
    exact ⟨⟨old, k e List.mem_cons_self _ he⟩, hi.at fun o q => k it (List.mem_cons_of_mem _ List.mem_cons_self) o q, hne⟩
  item := by
    intro X hP hw hK hc i pins s σ H E I hf ⟨⟨old, he⟩, hit, hne, hai⟩ ⟨xs, x, hq, hx⟩
    subst hP hw hK
    obtain ⟨its, rv, p, hz⟩ := I.tuple hq
    obtain ⟨u, hu, ru⟩ := rv.get hx
    have hlt : i < its.toArray.size := by rw [List.size_toArray]; exact (List.getElem?_eq_some_iff.mp hu).1
    have hel := Heap.lt_size he
    have hil : it < s.heap.objs.size := let ⟨_, q, _⟩ := hit; Heap.lt_size q
    have hea : e ≠ a := fun z => by
      have h0 := (hf e List.mem_cons_self).1
      obtain ⟨ob, g, gc, n, gd⟩ := p
      rw [← z, he] at g
      cases g
      exact absurd gc (by simp)
    have DT := Draws.tuple (prog := X.prog) (w := X.w) (A := X.A.in1) (show X.A.in1.handled = none from I.ok.hd hc) it a hai its.toArray
    refine PySem.wpAny_pyNext_enum_itemD DT he ⟨hit, p⟩ hlt hne (by simpa [hne] using hea) fun x' h' tk hx' ho hs' hT hsz hk => ?_
    have ex : x' = u := by
      have : its[i]? = some x' := by simpa using hx'
      rw [hu] at this
      exact (Option.some.inj this).symm
    subst ex
    refine ⟨_, rfl, wpAny_letOwnedTupleGo_enum (s := { s with heap := h', toks := tk + 1 }) ho fun h'' he' sb => ?_⟩
    have hT2 := (sb.2 _ (Nat.ne_of_gt hel)).trans hT
    have new : ObjOk X.prog X.w (upd H s.heap.objs.size (.tup [.int (i : Nat), x])) h'' s.heap.objs.size (.tup [.int (i : Nat), x]) :=
      ⟨(by decide : 2 ≤ sizeLine), [.int i tk, x'], .cons ⟨_, rfl⟩ (.cons ru .nil), _, hT2, rfl, _, rfl⟩
    have I1 := I.turnedNew (t' := tk + 1) (ch := [e, it]) (fun b ob hb q => (sb.2 b fun z => hb (z ▸ List.mem_cons_self)).trans (hk b ob (fun z => hb (z ▸ List.mem_cons_self)) (fun z => hb (z ▸ List.mem_cons_of_mem _ List.mem_cons_self)) q)) hf (Nat.le_refl _) new
    refine ⟨.ref s.heap.objs.size, _, I1, rfl, ⟨_, x, rfl, I.hok.fresh (Nat.le_refl _), rfl, fun ys hy => by rw [I.tuple_inj hy hq]; exact hx⟩, ⟨⟨x', ?_⟩, hs'.1.at fun o q => (sb.2 it hne.symm).trans q, hne, hai⟩, fun b hb => ?_⟩
    · have e1 : ((i + 1 : Nat) : Int) = (i : Int) + 1 := by omega
      rw [e1]; exact he'
    · have hb' : b < s.heap.objs.size := by
        rcases List.mem_cons.mp hb with rfl | hb
        · exact hel
        · cases List.mem_singleton.mp hb; exact hil
      rw [upd_ne (Nat.ne_of_lt hb')]
      exact (hf b hb).1
  done := by
    intro X hP hw hK hc i pins s σ H E I hf ⟨⟨old, he⟩, hit, hne, hai⟩ ⟨xs, hq, hx⟩
    subst hP hw hK
    obtain ⟨its, rv, p, hz⟩ := I.tuple hq
    obtain ⟨f0, f1, f2, f3, f4, f5⟩ := hf it (List.mem_cons_of_mem _ List.mem_cons_self)
    have hl : its.toArray.size = i := by rw [List.size_toArray, ← rv.length]; exact hx
    have DT := Draws.tuple (prog := X.prog) (w := X.w) (A := X.A.in1) (show X.A.in1.handled = none from I.ok.hd hc) it a hai its.toArray
    rw [hl] at DT
    exact PySem.wpAny_pyNext_enum_endD DT he ⟨hit, p⟩
      fun h' eb => ⟨rfl, I.turned (t' := s.toks) (fun b o hb q => eb b o hb q) f0 f1 f3 f4 f5⟩
  self := fun A i s Q E ⟨⟨_, he⟩, _⟩ h => wpAny_pyIter_enum he h
theorem meetsEnumT {l : Addr} {items : Array Value} :
    Meets (Builtin.«enumerate.__new__» ⟨[.type "enumerate", .ref l], []⟩) fun _ R s => s.heap.IsTuple l items ∧
      R (.ok (.ret (.ref (s.heap.push { cls := .type "tuple_iterator", data := .fields #[.ref l, .int 0 0] }).objs.size)))
        { s with heap := (s.heap.push { cls := .type "tuple_iterator", data := .fields #[.ref l, .int 0 0] }).push { cls := .type "enumerate", data := .fields #[.none, .bool false, .ref s.heap.objs.size, rawInt 0, .none, .none] } } :=
  .of_wp fun prog w A R s h => by
    obtain ⟨hp, g, d, tk, os⟩ := s
    obtain ⟨hl, h⟩ := h
    have q1 : ∀ {A' : Around} {E Q : Value → Shared → Prop}, Q (.ref hp.objs.size) ⟨hp.push { cls := .type "tuple_iterator", data := .fields #[.ref l, .int 0 0] }, g, d, tk, os⟩ → wpAny (model prog w) A' (pyIter (.ref l)) Q E ⟨hp, g, d, tk, os⟩ := fun q => wpAny_pyIter_tuple hl q
    have hsub := sub_enumerate
    wp_walk using q1
    refine wpAny_stack_any fun st => wpAny_pure ?_
    split
    · rename_i c _ _ _ _ _
      cases (c == Value.type "enumerate") <;> (wp_walk using q1; exact ⟨_, rfl, h⟩)
    · wp_walk using q1
      exact ⟨_, rfl, h⟩
theorem callEnumT {prog : Program} {w : World} {A : Around} {E : Value → Shared → Prop} {s : Shared} {l : Addr} {items : Array Value} {Q : Value → Shared → Prop} (hL : s.heap.IsTuple l items)
    (h : ∀ h', IsEnum h' (s.heap.objs.size + 1) s.heap.objs.size 0 .none → h'.IsTupleIter s.heap.objs.size l 0 → (∀ b o, s.heap.get? b = some o → h'.get? b = some o) → Q (.ref (s.heap.objs.size + 1)) { s with heap := h' }) :
    wpAny (model prog w) A (call (.type "enumerate") [.ref l]) Q E s := by
  refine callType_new F.called_enumerate (by decide) (F.typeCall_enumerate_1 _) (F.newCall_enumerate_1 _) (fun obj => F.args_object_init_2 obj _) F.entry_enumerate_new meetsEnumT ⟨hL, ?_⟩
  generalize hto : ({ cls := .type "tuple_iterator", data := .fields #[.ref l, .int 0 0] } : Obj) = to
  have hz : (s.heap.push to).objs.size = s.heap.objs.size + 1 := Heap.size_push ..
  show _ ∧ _
  rw [hz]
  have he : IsEnum ((s.heap.push to).push { cls := .type "enumerate", data := .fields #[.none, .bool false, .ref s.heap.objs.size, rawInt 0, .none, .none] }) (s.heap.objs.size + 1) s.heap.objs.size 0 .none := by
    have := Heap.get?_push_size (s.heap.push to) (o := { cls := .type "enumerate", data := .fields #[.none, .bool false, .ref s.heap.objs.size, rawInt 0, .none, .none] }) rfl
    rw [hz] at this
    exact this
  have hfree : to.isFreed = false := by rw [← hto]; rfl
  refine ⟨⟨_, he, rfl⟩, h _ he ?_ fun b o x => Heap.get?_push_of_some _ (Heap.get?_push_of_some _ x)⟩
  exact ⟨to, Heap.get?_push_of_some _ (Heap.get?_push_size _ hfree), by rw [← hto], by rw [← hto]; rfl⟩
def iEnumA (K : PySem.W.Frag) (ta : TA) : TI := fun σ H R => ta σ H fun vs H1 => ∃ a xs, vs = [.ref a] ∧ ((SqL K H1 a xs ∧ R (Ite K a) H1) ∨ (SqT K H1 a xs ∧ R (IteT K a) H1))
theorem pi_enumA {X : Cx} {e : Expr} {ta : TA} {p pos tpos : Pos} {elts : List Expr} {kk : Nat} (hg : Gl X "enumerate") (hm : X.mg "enumerate" = none) (ha : PA X [e] ta) (hs : starEach [e] X.env = [(false, eval e X.env)] := by rfl) :
    PI X (.Tuple elts kk tpos) (.Call (.Name "enumerate" p) [e] [] pos) (iEnumA X.K ta) := by
  refine ⟨fun pins s σ H R I h => Call_ (ld_blt I hg hm boot_enumerate (PyProof.Rows.callWith_type1 (thn (ha.run pos pins s σ H _ I h) fun us s1 ⟨vs, H1, I1, r1, q1⟩ => ?_) hs rfl))⟩
  obtain ⟨a, xs, rfl, q⟩ := q1
  obtain ⟨u, rfl, ru⟩ := vals1 r1
  cases ru
  have fresh2 : ∀ b ∈ [s1.heap.objs.size + 1, s1.heap.objs.size], FpOk X pins H1 b := fun b hb => by
    have hle : s1.heap.objs.size ≤ b := by
      rcases List.mem_cons.mp hb with rfl | hb
      · exact Nat.le_succ _
      · cases List.mem_singleton.mp hb; exact Nat.le_refl _
    exact I1.fpOk hle (I1.hok.fresh hle)
  rcases q with ⟨hq, q⟩ | ⟨hq, q⟩
  · obtain ⟨its, rv, p', hz⟩ := I1.list hq
    refine call_enumerate_list p'.isList fun h' he hit hsz hk => wpAny_pyIter_enum he ?_
    exact ⟨_, _, _, _, H1, rfl, I1.kept (t' := s1.toks) hk, turn_enum a (s1.heap.objs.size + 1) s1.heap.objs.size, ⟨⟨.none, he⟩, hit, Nat.succ_ne_self _⟩, fresh2, q⟩
  · obtain ⟨its, rv, p', hz⟩ := I1.tuple hq
    have ha : a < s1.heap.objs.size := let ⟨_, g, _⟩ := p'; Heap.lt_size g
    refine callEnumT p' fun h' he hit hk => wpAny_pyIter_enum he ?_
    exact ⟨_, _, _, _, H1, rfl, I1.kept (t' := s1.toks) hk, turnEnumT a (s1.heap.objs.size + 1) s1.heap.objs.size, ⟨⟨.none, he⟩, hit, Nat.succ_ne_self _, Nat.ne_of_lt ha⟩, fresh2, q⟩
theorem walk_enumT {K : PySem.W.Frag} {a : Addr} {xs : List V} : Walk (IteT K a) xs.length (fun H => SqT K H a xs) (YPair (fun i => some (.int (i : Nat))) fun i => xs[i]?) where
  goes := fun i _ hi q => ⟨xs, xs[i], q, List.getElem?_eq_getElem hi⟩
  stops := fun _ q => ⟨xs, q, rfl⟩
  yields := fun i H v H' _ q ⟨T, x, h1, h2, h3, h4⟩ => ⟨T, _, x, h1, h2, h3, rfl, h4 xs q⟩
end Lm


namespace Lm
open PySem PySem.Spec PyProof.Rows L2
/-- the greatest one of these and m -/
def mxOf (m : Int) (ns : List Int) : Int := ns.foldl (fun m n => if n > m then n else m) m
section
variable {prog : Program} {w : World} {A : Around} {E : Value → Shared → Prop} {s : Shared}
/-- a call of a built-in function with keywords, by its tree -/
theorem callFnKw {id : String} {b : Builtin} {args : List Value} {kw : List (Str × Value)} {Q : Value → Shared → Prop} (hk : builtinKind id = none) (hp : plainId id = true) (hb : entryFor table id = some b) (ha : argsOk id ⟨args, kw⟩)
    (hc : wpAny (model prog w) A.in1 (b ⟨args, kw⟩) (fun fin s' => match fin with
      | .done f => (match (Except.ok f : Result) with | .ok (.ret v) => Q v s' | .ok _ => False | .error e => E e s')
      | .again c' => c'.quiet = true ∧ codeAny (model prog w) A c' (fun r s' => match r with | .ok (.ret v) => Q v s' | .ok _ => False | .error e => E e s') s') E s) :
    wpAny (model prog w) A (call (.builtin id) args kw) Q E s := by
  refine wpAny_call (codeAny_call_builtin hp hb ?_)
  simp only [checkBuiltinCall, hk]
  cases hsig : Manifest.signature? id with
  | none => exact wpAny_pure hc
  | some sig =>
    have h2 : Bind.checkArgs id sig ⟨args, kw⟩ = pure () := by simpa only [argsOk, hsig] using ha
    show wpAny _ A.in1 (Bind.checkArgs id sig ⟨args, kw⟩) _ _ s
    exact h2 ▸ wpAny_pure hc
/-- max's loop with any keywords, from the j-th item on, the greatest so far being m -/
theorem maxLoopKw {R : Result → Shared → Prop} {I a S : Addr} {its : Array Value} {ns : List Int} {kw : List (Str × Value)} (hh : A.handled = none) (hi : IntsAre its.toList ns) (hSI : S ≠ I) (hSa : S ≠ a) (haI : a ≠ I) :
    ∀ (k j : Nat) (s : Shared) (m : Int) (t : Tok) (c : Nat), ns.length - j = k → j ≤ ns.length → s.heap.IsTupleIter I a j → s.heap.IsTuple a its → s.heap.get? S = some { cls := .type "list", data := .seq #[.int m t, .int m t] c } →
    (∀ h' tk t', (∀ b o, b ≠ I → b ≠ S → s.heap.get? b = some o → h'.get? b = some o) → R (.ok (.ret (.int (mxOf m (ns.drop j)) t'))) { s with heap := h', toks := tk }) →
    codeAny (model prog w) A (.builtin "max.loop" ⟨[.ref I, .none, .ref S], kw⟩) R s := by
  have hname : (toString "max" ++ toString ".loop" : String) = "max.loop" := by decide
  have hsz : its.size = ns.length := by rw [← Array.length_toList]; exact hi.length
  have W := Walks.tuple (prog := prog) (w := w) (A := A.in1) hh I a haI its
  intro k
  induction k with
  | zero =>
    intro j s m t c hk hj hit ht hS hR
    have e : j = ns.length := by omega
    subst e
    refine codeAny_builtin F.entry_max_loop ?_
    rw [Around.under_plainId F.plain_max_loop _]
    show wpAny _ A.in1 (seqItems? (.ref S) >>= _) _ _ s
    refine wpAny_bind (wpAny_seqItems hS rfl (wpAny_bind (wpAny_tryCatch (W.done s _ _ (hsz ▸ ⟨hit, ht⟩) fun h' tk hk' => ?_))))
    have hS' := hk' S _ (by simpa using hSI) hS
    show wpAny _ A.in1 (updateSeq S (fun _ => #[]) >>= _) _ _ _
    refine wpAny_bind (wpAny_updateSeq hS' rfl (wpAny_bind (wpAny_letGo (wpAny_pure ?_))))
    have := hR (h'.update S (Obj.mapSeq fun _ => #[])) tk t fun b o hb hb' q => (Heap.get?_update_other _ _ hb'.symm).trans (hk' b o (by simpa using hb) q)
    rw [List.drop_length] at this
    exact this
  | succ k ih =>
    intro j s m t c hk hj hit ht hS hR
    have hlt : j < ns.length := by omega
    obtain ⟨tj, hjt⟩ := hi.get j ns[j] (List.getElem?_eq_getElem hlt)
    refine codeAny_builtin F.entry_max_loop ?_
    rw [Around.under_plainId F.plain_max_loop _]
    show wpAny _ A.in1 (seqItems? (.ref S) >>= _) _ _ s
    refine wpAny_bind (wpAny_seqItems hS rfl (wpAny_bind (wpAny_tryCatch (W.item j s _ _ (by omega) ⟨hit, ht⟩ fun v h' tk hP hst' hk' => ?_))))
    have ev : v = .int ns[j] tj := by
      have h1 : its.toList[j]? = some v := by simpa using hP
      rw [hjt] at h1
      exact (Option.some.inj h1).symm
    subst ev
    have hS' := hk' S _ (by simpa using hSI) hS
    have hdrop : ns.drop j = ns[j] :: ns.drop (j + 1) := List.drop_eq_getElem_cons hlt
    have gt : ∀ (s0 : Shared) (Q0 E0 : Value → Shared → Prop), Q0 (.bool (decide (ns[j] > m))) s0 → wpAny (model prog w) A.in1 (richCompare .Gt (.int ns[j] tj) (.int m t)) Q0 E0 s0 := fun s0 Q0 E0 q =>
      CmpOf.ints_gt (A := A.in1) (P := fun i v => (i = 0 ∧ v = .int ns[j] tj) ∨ (i = 1 ∧ v = .int m t)) (fun i => if i = 0 then ns[j] else m) (by rintro i v (⟨rfl, rfl⟩ | ⟨rfl, rfl⟩) <;> exact ⟨_, rfl⟩) 0 1 _ _ s0 Q0 E0 (.inl ⟨rfl, rfl⟩) (.inr ⟨rfl, rfl⟩) (by simpa using q)
    refine wpAny_bind (wpAny_pure ?_)
    refine wpAny_bind (wpAny_tryCatch (wpAny_holding (wpAny_bind (gt _ _ _ (wpAny_bind (wpAny_holding (wpAny_truthy_bool (wpAny_bind (wpAny_letGo (wpAny_pure ?_))))))))))
    by_cases hb : ns[j] > m
    · simp only [hb, decide_true, if_true]
      have e2 : mxOf m (ns.drop j) = mxOf ns[j] (ns.drop (j + 1)) := by
        rw [hdrop]
        exact congrArg (fun z => mxOf z (ns.drop (j + 1))) (if_pos hb)
      refine wpAny_bind (wpAny_updateSeq hS' rfl (wpAny_bind (wpAny_letGo ?_)))
      rw [hname]
      have oth : ∀ b o, b ≠ S → h'.get? b = some o → (h'.update S (Obj.mapSeq fun _ => #[.int ns[j] tj, .int ns[j] tj])).get? b = some o := fun b o q e => (Heap.get?_update_other _ _ q.symm).trans e
      refine wpAny_pure ⟨plainId_quiet F.plain_max_loop _, ih (j + 1) _ ns[j] tj _ (by omega) hlt (hst'.1.at fun o q => oth _ _ hSI.symm q) (hst'.2.at fun o q => oth _ _ hSa.symm q) (Heap.get?_update_self _ hS' rfl) fun h'' tk'' t'' hk'' => ?_⟩
      exact e2 ▸ hR h'' tk'' t'' fun b o hbI hbS q => hk'' b o hbI hbS (oth b o hbS (hk' b o (by simpa using hbI) q))
    · simp only [hb, decide_false, Bool.false_eq_true, if_false]
      have e2 : mxOf m (ns.drop j) = mxOf m (ns.drop (j + 1)) := by
        rw [hdrop]
        exact congrArg (fun z => mxOf z (ns.drop (j + 1))) (if_neg hb)
      refine wpAny_bind (wpAny_letGo ?_)
      rw [hname]
      refine wpAny_pure ⟨plainId_quiet F.plain_max_loop _, ih (j + 1) _ m t c (by omega) hlt hst'.1 hst'.2 hS' fun h'' tk'' t'' hk'' => ?_⟩
      exact e2 ▸ hR h'' tk'' t'' fun b o hbI hbS q => hk'' b o hbI hbS (hk' b o (by simpa using hbI) q)
/-- max(t, default=d) of a tuple of ints -/
theorem callMaxD {a : Addr} {its : Array Value} {ns : List Int} {d : Value} {Q : Value → Shared → Prop} (hh : A.handled = none) (ht : s.heap.IsTuple a its) (hi : IntsAre its.toList ns)
    (h0 : ns = [] → ∀ h' tk, (∀ b o, s.heap.get? b = some o → h'.get? b = some o) → Q d { s with heap := h', toks := tk })
    (h1 : ∀ n ms, ns = n :: ms → ∀ h' tk t', (∀ b o, s.heap.get? b = some o → h'.get? b = some o) → Q (.int (mxOf n ms) t') { s with heap := h', toks := tk }) :
    wpAny (model prog w) A (call (.builtin "max") [.ref a] [("default", d)]) Q E s := by
  have hname : (toString "max" ++ toString ".loop" : String) = "max.loop" := by decide
  refine callFnKw F.kind_max F.plain_max F.entry_max (by unfold argsOk; kernel_rfl) ?_
  show wpAny _ A.in1 (Builtin.Builtins.bindParams "max" ["key", "default"] 0 ⟨[], [("default", d)]⟩ >>= _) _ _ s
  refine wpAny_bind (wpAny_of_eq (a := [none, some d]) rfl (wpAny_bind (wpAny_pure (wpAny_bind (wpAny_pyIter_tuple ht ?_)))))
  refine wpAny_bind (wpAny_newObj_type ?_)
  have haL : a < s.heap.objs.size := let ⟨_, g, _⟩ := ht; Heap.lt_size g
  generalize hhp : (s.heap.push { cls := .type "tuple_iterator", data := .fields #[.ref a, .int 0 0] }) = hp
  have hps : hp.objs.size = s.heap.objs.size + 1 := by rw [← hhp]; exact Heap.size_push ..
  have old : ∀ b o, s.heap.get? b = some o → hp.get? b = some o := fun b o q => by rw [← hhp]; exact Heap.get?_push_of_some _ q
  rw [hname]
  have W := Walks.tuple (prog := prog) (w := w) (A := A.in1) hh s.heap.objs.size a (Nat.ne_of_lt haL) its
  have sz : its.size = ns.length := by rw [← Array.length_toList]; exact hi.length
  have hS : (hp.push (seqObj "list" #[] 0)).get? hp.objs.size = some { cls := .type "list", data := .seq #[] 0 } := Heap.get?_push_size _ rfl
  have hitI : (hp.push (seqObj "list" #[] 0)).IsTupleIter s.heap.objs.size a 0 := ⟨_, Heap.get?_push_of_some _ (by rw [← hhp]; exact Heap.get?_push_size _ rfl), rfl, rfl⟩
  have htI : (hp.push (seqObj "list" #[] 0)).IsTuple a its := ht.at fun o q => Heap.get?_push_of_some _ (old _ _ q)
  have nIS : hp.objs.size ≠ s.heap.objs.size := by omega
  have nSa : hp.objs.size ≠ a := Nat.ne_of_gt (Nat.lt_of_lt_of_le haL (hps ▸ Nat.le_succ _))
  refine wpAny_pure ⟨plainId_quiet F.plain_max_loop _, codeAny_builtin F.entry_max_loop ?_⟩
  rw [Around.under_plainId F.plain_max_loop _]
  show wpAny _ A.in1 (seqItems? (.ref hp.objs.size) >>= _) _ _ _
  refine wpAny_bind (wpAny_seqItems hS rfl ?_)
  cases ns with
  | nil =>
    refine wpAny_bind (wpAny_tryCatch (W.done _ _ _ (sz ▸ ⟨hitI, htI⟩) fun h' tk hk => ?_))
    refine wpAny_bind (wpAny_rule (wpAny_pure ?_))
    exact h0 rfl h' tk fun b o q => hk b o (by simpa using Nat.ne_of_lt (Heap.lt_size q)) (Heap.get?_push_of_some _ (old b o q))
  | cons n ms =>
    obtain ⟨t0, ht0⟩ := hi.get 0 n rfl
    refine wpAny_bind (wpAny_tryCatch (W.item 0 _ _ _ (by rw [sz]; exact Nat.succ_pos _) ⟨hitI, htI⟩ fun v h' tk hP hst hk => ?_))
    have ev : v = .int n t0 := by
      have h1 : its.toList[0]? = some v := by simpa using hP
      rw [ht0] at h1
      exact (Option.some.inj h1).symm
    subst ev
    have hS' := hk _ _ (by simpa using nIS) hS
    refine wpAny_bind (wpAny_pure (wpAny_bind (wpAny_updateSeq hS' rfl ?_)))
    have oth : ∀ b o, b ≠ hp.objs.size → h'.get? b = some o → (h'.update hp.objs.size (Obj.mapSeq fun _ => #[.int n t0, .int n t0])).get? b = some o := fun b o q e => (Heap.get?_update_other _ _ q.symm).trans e
    rw [hname]
    refine wpAny_pure ⟨plainId_quiet F.plain_max_loop _, maxLoopKw hh hi nIS nSa (Nat.ne_of_lt haL) _ 1 _ n t0 _ rfl (Nat.succ_le_succ (Nat.zero_le _)) (hst.1.at fun o q => oth _ _ nIS.symm q) (hst.2.at fun o q => oth _ _ nSa.symm q) (Heap.get?_update_self _ hS' rfl) fun h'' tk'' t'' hk'' => ?_⟩
    refine h1 n ms rfl h'' tk'' t'' fun b o q => ?_
    have lb := Heap.lt_size q
    have b1 : b ≠ s.heap.objs.size := Nat.ne_of_lt lb
    have b2 : b ≠ hp.objs.size := Nat.ne_of_lt (Nat.lt_of_lt_of_le lb (hps ▸ Nat.le_succ _))
    exact hk'' b o b1 b2 (oth b o b2 (hk b o (by simpa using b1) (Heap.get?_push_of_some _ (old b o q))))
end
def rMaxDT (K : PySem.W.Frag) : List V → List V → Hp → VK → Prop := fun xs zs H Q => ∃ (a : Addr) (ns : List Int) (d : Int), xs = [.ref a] ∧ zs = [.int d] ∧ SqT K H a (ns.map V.int) ∧ Q (.int (match ns with | [] => d | n :: ms => mxOf n ms)) H
theorem cr_maxD {X : Cx} (hc : X.calm = true) : CallRK X (.builtin "max") [Str.ofString "default"] (rMaxDT X.K) := by
  intro pins s σ H vs zs us ws Q I r rz h
  obtain ⟨a, ns, d, rfl, rfl, hs, q⟩ := h
  obtain ⟨u, rfl, e⟩ := vals1 r
  cases e
  obtain ⟨w1, rfl, t, rfl⟩ := vals1 rz
  obtain ⟨its, rv, p, hz⟩ := I.tuple hs
  have hi := ints_of_vals rv
  refine callMaxD (ns := ns) (I.ok.hd hc) (show s.heap.IsTuple a its.toArray from p) hi (fun e h' tk hk => ?_) fun n ms e h' tk t' hk => ?_
  · subst e
    exact ⟨.int d, H, I.kept hk, ⟨_, rfl⟩, q⟩
  · subst e
    exact ⟨.int (mxOf n ms), H, I.kept hk, ⟨_, rfl⟩, q⟩
end Lm


namespace Lm
open PySem PySem.Spec PyProof.Rows L2
section
variable {X : Cx}
/-! ### rules that serve several kinds of values: the derivation need not know which -/
def rAddA (K : PySem.W.Frag) : R2 := fun x y H Q => rI0 (fun i j => .int (i + j)) x y H Q ∨ rCatN K x y H Q ∨ rCat x y H Q
theorem op_addA : OpR X (binaryOp .Add) (rAddA X.K) := op_add.or (op_catN.or op_cat)
def rMulA : R2 := fun x y H Q => rI CMul (fun i j => .int (i * j)) x y H Q ∨ rRep x y H Q
theorem op_mulA : OpR X (binaryOp .Mult) rMulA := op_mul.or op_rep
def rEqA (K : PySem.W.Frag) : R2 := fun x y H Q => rEq x y H Q ∨ rEqD K x y H Q
theorem op_eqA (hu : X.A.units + 64 < cLine) : OpR X (compareOp .Eq) (rEqA X.K) := op_eq.or (op_eqD hu)
def rNeA (K : PySem.W.Frag) : R2 := fun x y H Q => rNe x y H Q ∨ rNeD K x y H Q
theorem op_neA (hu : X.A.units + 64 < cLine) : OpR X (compareOp .NotEq) (rNeA X.K) := op_ne.or (op_neD hu)
def iSeq (K : PySem.W.Frag) (tl : TE) : TI := fun σ H R => iList K tl σ H R ∨ iTup K tl σ H R
theorem pi_seq {e tg : Expr} {tl : TE} (h : PE X e tl) : PI X tg e (iSeq X.K tl) := by
  refine ⟨fun pins s σ H R I q => ?_⟩
  rcases q with q | q
  · exact (pi_list h).run pins s σ H R I q
  · exact (pi_tup h).run pins s σ H R I q
def rUnits {k : Nat} {A : Around} (hr : Room k A) : A.units + 64 < cLine := by have := hr.un; omega
end
variable {c : Ct} {H H' H0 H1 H2 H3 : Hp} {O : List Addr} {σ : L2.St} {Γ Γ' Γ1 : List (Option Rs)}
variable {te ta tb tx tl : TE} {tt tu : TT} {tr : TA} {k ka kb kc : Kd} {d x y z : PyData} {i j : Int} {a b : Bool} {kv fz : Bool} {ds es : List PyData}
theorem e_add (ha : Ev c ta Γ ka (.int i)) (hb : Ev c tb Γ kb (.int j)) : Ev c (tOp (rAddA c.K) ta tb) Γ .v (.int (i + j)) :=
  d_bin ha hb fun H O v u Q bv bu q => .inl ⟨i, j, bv.int', bu.int', q _ H Rr.rf (.int _)⟩
theorem e_eqI (ha : Ev c ta Γ ka (.int i)) (hb : Ev c tb Γ kb (.int j)) : Ev c (tOp (rEqA c.K) ta tb) Γ .v (.bool (decide (i = j))) :=
  d_bin ha hb fun H O v u Q bv bu q => .inl ⟨by rw [bv.int', bu.int']; rfl, by rw [bv.int', bu.int', decI]; exact q _ H Rr.rf (.bl _)⟩
theorem e_neI (ha : Ev c ta Γ ka (.int i)) (hb : Ev c tb Γ kb (.int j)) : Ev c (tOp (rNeA c.K) ta tb) Γ .v (.bool (!decide (i = j))) :=
  d_bin ha hb fun H O v u Q bv bu q => .inl ⟨by rw [bv.int', bu.int']; rfl, by rw [bv.int', bu.int', decI]; exact q _ H Rr.rf (.bl _)⟩
theorem e_eqS {v w : V} (ha : Ev c ta Γ ka x) (hb : Ev c tb Γ kb y) (hx : scalD x = some v) (hy : scalD y = some w) (hs : scal v w = true) (hz : decide (v = w) = a) : Ev c (tOp (rEqA c.K) ta tb) Γ .v (.bool a) :=
  d_bin ha hb fun H O v' u' Q bv bu q => .inl ⟨by rw [bv.scal hx, bu.scal hy]; exact hs, by rw [bv.scal hx, bu.scal hy, hz]; exact q _ H Rr.rf (.bl _)⟩
theorem e_ixT (ha : Ev c ta Γ ka (.tuple ds)) (hb : Ev c tb Γ kb (.int i)) (he : atI ds i = some d) (hf : flatD d = true) : Ev c (tOp (rIx c.K) ta tb) Γ .v d := fun H0 O H σ e Q q =>
  ha H0 O H σ e _ fun v H1 r1 s1 => hb H0 O H1 σ (e.on r1) _ fun u H2 r2 s2 => by
    obtain ⟨p, xs, rfl, s, al⟩ := (Res.bo e (Res.on e r1 r2 s1)).tup'
    obtain ⟨x, hx, bx⟩ := atI_bo al he
    exact .inr (.inl ⟨p, xs, i, x, rfl, (Res.bo (e.on r1) s2).int', s.sq, hx, q x H2 (r1.tr r2) (Bo.flatM e (r1.tr r2) hf bx)⟩)
theorem e_ixL (ha : Ev c ta Γ ka (.list ds)) (hb : Ev c tb Γ kb (.int i)) (he : atI ds i = some d) (hf : flatD d = true) : Ev c (tOp (rIx c.K) ta tb) Γ .v d := fun H0 O H σ e Q q =>
  ha H0 O H σ e _ fun v H1 r1 s1 => hb H0 O H1 σ (e.on r1) _ fun u H2 r2 s2 => by
    obtain ⟨p, xs, rfl, _, s, al⟩ := (Res.bo e (Res.on e r1 r2 s1)).lst'
    obtain ⟨x, hx, bx⟩ := atI_bo al he
    exact .inl ⟨p, xs, i, x, rfl, (Res.bo (e.on r1) s2).int', s, hx, q x H2 (r1.tr r2) (Bo.flatM e (r1.tr r2) hf bx)⟩
/-- an item of a frozen tuple, whatever it is -/
theorem e_ixTv (ha : Ev c ta Γ .v (.tuple ds)) (hb : Ev c tb Γ kb (.int i)) (he : atI ds i = some d) : Ev c (tOp (rIx c.K) ta tb) Γ .v d := fun H0 O H σ e Q q =>
  ha H0 O H σ e _ fun v H1 r1 s1 => hb H0 O H1 σ (e.on r1) _ fun u H2 r2 s2 => by
    obtain ⟨p, xs, rfl, s, al⟩ := Bo.tup' (Res.on e r1 r2 s1)
    obtain ⟨x, hx, bx⟩ := atI_bo al he
    exact .inr (.inl ⟨p, xs, i, x, rfl, (Res.bo (e.on r1) s2).int', (sqT_same mns_same s).sq, hx, q x H2 (r1.tr r2) bx⟩)
theorem e_ixLv (ha : Ev c ta Γ .v (.list ds)) (hb : Ev c tb Γ kb (.int i)) (he : atI ds i = some d) : Ev c (tOp (rIx c.K) ta tb) Γ .v d := fun H0 O H σ e Q q =>
  ha H0 O H σ e _ fun v H1 r1 s1 => hb H0 O H1 σ (e.on r1) _ fun u H2 r2 s2 => by
    obtain ⟨p, xs, rfl, _, s, al⟩ := Bo.lst' (Res.on e r1 r2 s1)
    obtain ⟨x, hx, bx⟩ := atI_bo al he
    exact .inl ⟨p, xs, i, x, rfl, (Res.bo (e.on r1) s2).int', mns_same.seq s, hx, q x H2 (r1.tr r2) bx⟩
/-- a < b < c of ints -/
theorem d_chain {f g : Int → Int → Bool} {l : Int} (ha : Ev c ta Γ ka (.int i)) (hb : Ev c tb Γ kb (.int j)) (hc : f i j = true → Ev c tx Γ kc (.int l)) :
    Ev c (tChain (rI0 fun i j => .bl (f i j)) (rI0 fun i j => .bl (g i j)) ta tb tx) Γ .v (.bool (f i j && g j l)) := fun H0 O H σ e Q q =>
  ha H0 O H σ e _ fun v H1 r1 s1 => hb H0 O H1 σ (e.on r1) _ fun u H2 r2 s2 => by
    refine ⟨i, j, (Res.bo e s1).int', (Res.bo (e.on r1) s2).int', f i j, rfl, ?_⟩
    cases hf : f i j with
    | true =>
      refine iteT (hc hf H0 O H2 σ ((e.on r1).on r2) _ fun w H3 r3 s3 => ?_)
      exact ⟨j, l, (Res.bo (e.on r1) s2).int', (Res.bo ((e.on r1).on r2) s3).int', by
        have := q (.bl (g j l)) H3 ((r1.tr r2).tr r3)
        rw [hf, Bool.true_and] at this
        exact this (.bl _)⟩
    | false =>
      refine iteF ?_
      have := q (.bl false) H2 (r1.tr r2)
      rw [hf, Bool.false_and] at this
      exact this (.bl _)
/-! ### isinstance -/
def tyD : PyData → String
  | .none => "NoneType"
  | .bool _ => "bool"
  | .int _ => "int"
  | .str _ => "str"
  | .list _ => "list"
  | .tuple _ => "tuple"
  | .dict _ => "dict"
theorem Bo.ty {v : V} (h : Bo c H v d) : TyX c.K H v (.type (tyD d)) := by
  cases h with
  | non => exact .base .non
  | bl b => exact .base (.bl b)
  | int i => exact .base (.int i)
  | str x => exact .base (.str x)
  | lst _ s a =>
    rcases s with (s | ⟨o, s⟩) | ⟨o, its, n, h1, h2, _⟩
    · exact .base (.lst s)
    · exact .base (.frz s)
    · exact .kList h1 h2
  | tup s a =>
    rcases s with ⟨o, _, s⟩ | ⟨o, its, n, h1, h2, _⟩
    · exact .fTuple s
    · exact .kTuple h1 h2
theorem e_isi {n : String} (h : Ev c te Γ k d) (e : kitB (tyD d) n = some b) : Ev c (tCB (rIsi c.K) (tCons te (tCons (tC (.ty n)) tNil))) Γ .v (.bool b) := fun H0 O H σ en Q q =>
  h H0 O H σ en _ fun v H1 r1 s1 => ⟨v, .ty n, _, _, b, rfl, .ty n, (Res.bo en s1).ty, kit_ty e, q _ H1 r1 (.bl b)⟩
/-! ### what is walked -/
theorem i_seqL (h : Ev c tl Γ k (.list ds)) (hk : k ≠ .b) : EvI c (iSeq c.K tl) Γ true (ds.map Im.d) := fun H0 O H σ e R q => .inl (i_list h hk H0 O H σ e R q)
theorem i_seqB (h : Ev c tl Γ k (.list ds)) (hf : flatAll ds = true) : EvI c (iSeq c.K tl) Γ false (ds.map Im.d) := fun H0 O H σ e R q => .inl (i_listB h hf H0 O H σ e R q)
theorem i_seqT (h : Ev c tl Γ k (.tuple ds)) (hk : k ≠ .b) : EvI c (iSeq c.K tl) Γ true (ds.map Im.d) := fun H0 O H σ e R q => .inr (i_tup h hk H0 O H σ e R q)
/-- the places and the items -/
def enumI (ds : List PyData) : List Im := ds.zipIdx.map fun p => .t [.d (.int (p.2 : Nat)), .d p.1]
theorem enum_core {J : It} {xs : List V} {F : Hp} (jF : Ji c F) (hw : Walk J xs.length (fun H => Rr c F H) (YPair (fun i => some (.int (i : Nat))) fun i => xs[i]?)) (hb : BoAll c F xs ds) (hf : fz = true ∨ flatAll ds = true) : WD c F fz J (enumI ds) := by
  refine ⟨jF, ?_⟩
  have hl : xs.length = (enumI ds).length := by rw [hb.len]; simp [enumI]
  rw [hl] at hw
  refine hw.mono (fun _ h => h) fun i H x H' hi g y => ?_
  obtain ⟨T, x1, x2, rfl, hT, rfl, h1, h2⟩ := y
  cases h1
  obtain ⟨d, hd, bd⟩ := hb.get h2
  have sm : Same H (upd H T (.tup [.int (i : Nat), x2])) := fun b o z => by rw [upd_ne (ne_of_none z hT)]; exact z
  refine ⟨sm, .t [.d (.int (i : Nat)), .d d], ?_, .tup (.inl (.inl upd_same)) (.cons (.leaf (.inl ⟨rfl, .int _⟩)) (.cons (.leaf ?_) .nil))⟩
  · simp [enumI, hd]
  · rcases hf with hf | hf
    · exact .inr ⟨hf, bd⟩
    · exact .inl ⟨flatAll_one hf (List.mem_of_getElem? hd), bd.mono jF (g.tr (Rr.same sm))⟩
theorem i_enumT (h : EvA c tr Γ true [.tuple ds]) : EvI c (iEnumA c.K tr) Γ true (enumI ds) := fun H0 O H σ e R q =>
  h H0 O H σ e _ fun vs H1 r s => by
    obtain ⟨x, rfl, b⟩ := (BoAll.vm s).one
    obtain ⟨p, xs, rfl, sl, al⟩ := b.tup'
    exact ⟨p, xs, rfl, .inr ⟨(sqT_same mns_same sl).sq, q _ H1 r (enum_core (e.on r).j (walk_enumT.mono (fun H h => (h.tup (e.on r).j sl).sq) fun _ _ _ _ _ _ y => y) al (.inl rfl))⟩⟩
/-- max(t, default=d) -/
def mxD (d : Int) : List Int → Int
  | [] => d
  | n :: ms => mxOf n ms
theorem e_maxD {ns : List Int} (h : Ev c ta Γ ka (.tuple (ns.map .int))) (hb : Ev c tb Γ kb (.int i)) : Ev c (tCKw (rMaxDT c.K) (tCons ta tNil) (tCons tb tNil)) Γ .v (.int (mxD i ns)) := fun H0 O H σ e Q q =>
  h H0 O H σ e _ fun v H1 r1 s1 => hb H0 O H1 σ (e.on r1) _ fun u H2 r2 s2 => by
    obtain ⟨p, xs, rfl, s, al⟩ := (Res.bo e (Res.on e r1 r2 s1)).tup'
    have := al.ints
    subst this
    refine ⟨p, ns, i, rfl, by rw [(Res.bo (e.on r1) s2).int'], s.sq, ?_⟩
    cases ns with
    | nil => exact q _ H2 (r1.tr r2) (.int _)
    | cons n ms => exact q _ H2 (r1.tr r2) (.int _)
end Lm


namespace Lm
open PySem PySem.Spec PyProof.Rows L2
section
variable {prog : Program} {w : World} {A : Around} {E : Value → Shared → Prop} {s : Shared}
/-- iter(t), what it takes to walk t -/
theorem iterTup {a : Addr} {its : Array Value} {Q : Value → Shared → Prop} (ht : s.heap.IsTuple a its)
    (h : ∀ s2 : Shared, s2 = { s with heap := s.heap.push { cls := .type "tuple_iterator", data := .fields #[.ref a, .int 0 0] } } → s2.heap.IsTupleIter s.heap.objs.size a 0 ∧ s2.heap.IsTuple a its → (∀ b ∈ [s.heap.objs.size, a], b < s2.heap.objs.size) → a ≠ s.heap.objs.size →
      (∀ b o, s.heap.get? b = some o → b ∉ [s.heap.objs.size] ∧ s2.heap.get? b = some o) → Q (.ref s.heap.objs.size) s2) : wpAny (model prog w) A (pyIter (.ref a)) Q E s := by
  have hlt : a < s.heap.objs.size := let ⟨_, g, _⟩ := ht; Heap.lt_size g
  refine wpAny_pyIter_tuple ht (h _ rfl ⟨⟨_, Heap.get?_push_size _ rfl, rfl, rfl⟩, ht.at fun o q => Heap.get?_push_of_some _ q⟩ (fun b hb => ?_) (Nat.ne_of_lt hlt) fun b o q => ⟨by simpa using Nat.ne_of_lt (Heap.lt_size q), Heap.get?_push_of_some _ q⟩)
  show b < (s.heap.push _).objs.size
  rw [Heap.size_push]
  rcases List.mem_cons.mp hb with rfl | hb
  · exact Nat.lt_succ_self _
  · cases List.mem_singleton.mp hb
    exact Nat.lt_succ_of_lt hlt
theorem preSum_take (ns : List Int) : ∀ j, j ≤ ns.length → preSum (fun i => ns.getD i 0) j = (ns.take j).sum
  | 0, _ => rfl
  | j + 1, h => by
    have e : ns[j]? = some ns[j] := List.getElem?_eq_getElem h
    rw [preSum, preSum_take ns j (Nat.le_of_succ_le h), sum_take e, List.getD_eq_getElem?_getD, e]
    rfl
theorem callSumT {a : Addr} {its : Array Value} {ns : List Int} {Q : Value → Shared → Prop} (hh : A.handled = none) (ht : s.heap.IsTuple a its) (hi : IntsAre its.toList ns)
    (h : ∀ h' tk t', (∀ b o, s.heap.get? b = some o → h'.get? b = some o) → Q (.int ns.sum t') { s with heap := h', toks := tk }) : wpAny (model prog w) A (call (.builtin "sum") [.ref a]) Q E s := by
  have hsz : its.size = ns.length := by rw [← Array.length_toList]; exact hi.length
  refine call_sum_walkG (iterTup ht fun s2 e st hfp hne old => ?_)
  refine ⟨_, _, _, ns.length, _, _, fun i => ns.getD i 0, rfl, hsz ▸ Walks.tuple (A := A.in1) hh _ a hne its, st, hfp, fun i v q => ?_, fun h' tk t' hk => ?_⟩
  · have h1 : its.toList[i]? = some v := by simpa using q
    have hlt : i < ns.length := by rw [← hi.length]; exact (List.getElem?_eq_some_iff.mp h1).1
    obtain ⟨t, h2⟩ := hi.get i ns[i] (List.getElem?_eq_getElem hlt)
    rw [h1] at h2
    refine ⟨t, ?_⟩
    show v = Value.int (ns.getD i 0) t
    rw [List.getD_eq_getElem?_getD, List.getElem?_eq_getElem hlt]
    exact Option.some.inj h2
  · rw [preSum_take ns _ (Nat.le_refl _), List.take_length]
    subst e
    exact h h' tk t' fun b o q => hk b o (old b o q).1 (old b o q).2
end
def rSumT (K : PySem.W.Frag) : List V → Hp → VK → Prop := fun vs H Q => ∃ (a : Addr) (ns : List Int), vs = [V.ref a] ∧ SqT K H a (ns.map V.int) ∧ Q (.int ns.sum) H
def rSumA (K : PySem.W.Frag) : List V → Hp → VK → Prop := fun vs H Q => rSum K vs H Q ∨ rSumT K vs H Q
section
variable {X : Cx}
theorem cr_sumT (hc : X.calm = true) : CallR X (.builtin "sum") (rSumT X.K) := by
  rintro pins s σ H vs us Q I r ⟨a, ns, rfl, hs, q⟩
  obtain ⟨its, rv, p, _⟩ := I.tuple hs
  rw [Vals.ref1 r]
  exact callSumT (I.ok.hd hc) (show s.heap.IsTuple a its.toArray from p) rv.ints fun h' tk t' hk => ⟨.int _, H, I.kept hk, ⟨_, rfl⟩, q⟩
theorem cr_sumA (hc : X.calm = true) : CallR X (.builtin "sum") (rSumA X.K) := (cr_sum hc).or (cr_sumT hc)
theorem cr_len : CallR X (.builtin "len") (rLen X.K) := call_len_seq
/-- a module's int -/
theorem pe_const {x : Str} {n : Int} {pos : Pos} (hg : Gl X x) (hm : ∃ t, X.mg x = some (.int n t)) (hd : (x == ("__debug__" : Str)) = false := by decide) : PE X (.Name x pos) (tC (.int n)) := by
  obtain ⟨t, h⟩ := hm
  exact pe_glob hg h ⟨t, rfl⟩ hd
/-- a built-in class as a value -/
theorem pe_ty {x : Str} {n : String} {pos : Pos} (hg : Gl X x) (hm : X.mg x = none) (hv : bootBuiltins x = some (.type n)) (hn : x ≠ "__name__" := by decide) (hd : (x == ("__debug__" : Str)) = false := by decide) : PE X (.Name x pos) (tC (.ty n)) :=
  pe_bltn hg hm hv rfl hn hd
/-- list(x) -/
def rListA (K : PySem.W.Frag) : List V → Hp → VK → Prop := fun xs H Q => ∃ p ys, xs = [.ref p] ∧ (SqL K H p ys ∨ SqT K H p ys) ∧ ∀ l, H l = none → Q (.ref l) (upd H l (.lst ys))
theorem cr_list : CallR X (.type "list") (rListA X.K) := call_list_of
end
variable {c : Ct} {H H' H0 H1 H2 H3 : Hp} {O : List Addr} {σ : L2.St} {Γ Γ' Γ1 : List (Option Rs)}
variable {te ta tb tx tl : TE} {tt tu : TT} {tr : TA} {k ka kb kc : Kd} {d x y z : PyData} {i j : Int} {a b : Bool} {kv fz : Bool} {ds es : List PyData}
theorem e_sumT {ns : List Int} (h : Ev c te Γ k (.tuple (ns.map .int))) : Ev c (tCB (rSumA c.K) (tCons te tNil)) Γ .v (.int ns.sum) :=
  d_cb (a_cons h a_nil) fun H O vs Q s q => by
    obtain ⟨x, rfl, b⟩ := s.one
    obtain ⟨p, xs, rfl, s, al⟩ := b.tup'
    have := al.ints
    subst this
    exact .inr ⟨p, ns, rfl, s.sq, q _ H Rr.rf (.int _)⟩
theorem e_sumL {ns : List Int} (h : Ev c te Γ k (.list (ns.map .int))) : Ev c (tCB (rSumA c.K) (tCons te tNil)) Γ .v (.int ns.sum) :=
  d_cb (a_cons h a_nil) fun H O vs Q s q => by
    obtain ⟨x, rfl, b⟩ := s.one
    obtain ⟨p, xs, rfl, _, s, al⟩ := b.lst'
    have := al.ints
    subst this
    exact .inl ⟨p, ns, rfl, s, q _ H Rr.rf (.int _)⟩
theorem e_listT (h : Ev c te Γ k (.tuple ds)) (hf : flatAll ds = true) : Ev c (tCB (rListA c.K) (tCons te tNil)) Γ .o (.list ds) := fun H0 O H σ e Q q =>
  h H0 O H σ e _ fun v H1 r s => by
    obtain ⟨p, xs, rfl, sl, al⟩ := (Res.bo e s).tup'
    refine ⟨p, xs, rfl, .inr sl.sq, fun l hl => ?_⟩
    have sm : Same H1 (upd H1 l (.lst xs)) := fun b u z => by rw [upd_ne (ne_of_none z hl)]; exact z
    exact q _ _ (r.tr (Rr.same sm)) ⟨[l], .lst upd_same (FoAll.leaves hf (al.same sm)), by simp, fun a ha => by
      cases List.mem_singleton.mp ha
      exact r.back e.jH hl⟩
end Lm
namespace Lm
open PySem PySem.Spec PyProof.Rows L2
variable {c : Ct} {Γ : List (Option Rs)} {te : TE} {tt : TT} {fz : Bool} {α : Type} {wi : TI} {g : TG} {vs : List Nat} {l : List α} {en : α → Im}
theorem d_lcB (m : α → Bool) (hi : EvI c wi Γ fz (l.map en)) (hl : l.length ≤ 1000000)
    (hb : ∀ a ∈ l, ∃ Γ' js, EvG c g (en a) (wipeG Γ vs) Γ' js ∧ (∀ j ∈ js, j ∈ vs) ∧ ∃ k, Ev c te Γ' k (.bool (m a))) : Ev c (tLc wi g tYes te vs) Γ .o (.list ((l.map m).map .bool)) := by
  have := d_lcA (te := te) (g := g) (vs := vs) (fun a => PyData.bool (m a)) hi hl fun a ha => by
    obtain ⟨Γ', js, h1, h2, k, h3⟩ := hb a ha
    exact ⟨Γ', js, h1, h2, h3.fo rfl⟩
  rw [List.map_map]
  exact this
theorem d_lcI (m : α → Int) (hi : EvI c wi Γ fz (l.map en)) (hl : l.length ≤ 1000000)
    (hb : ∀ a ∈ l, ∃ Γ' js, EvG c g (en a) (wipeG Γ vs) Γ' js ∧ (∀ j ∈ js, j ∈ vs) ∧ ∃ k, Ev c te Γ' k (.int (m a))) : Ev c (tLc wi g tYes te vs) Γ .o (.list ((l.map m).map .int)) := by
  have := d_lcA (te := te) (g := g) (vs := vs) (fun a => PyData.int (m a)) hi hl fun a ha => by
    obtain ⟨Γ', js, h1, h2, k, h3⟩ := hb a ha
    exact ⟨Γ', js, h1, h2, h3.fo rfl⟩
  rw [List.map_map]
  exact this
end Lm
namespace Lm
open PySem
theorem flatT (ns : List Int) : flatD (.tuple (ns.map .int)) = true := flatAll_ints ns
end Lm
namespace Lm
open PySem PySem.Spec PyProof.Rows L2
def pairI (p : Int × Nat) : Im := .t [.d (.int ((p.2 : Nat) : Int)), .d (.int p.1)]
theorem enumI_ints (ns : List Int) : enumI (ns.map .int) = ns.zipIdx.map pairI := by
  unfold enumI
  rw [List.zipIdx_map, List.map_map]
  rfl
theorem i_enumTI {c : Ct} {Γ : List (Option Rs)} {tr : TA} {ns : List Int} (h : EvA c tr Γ true [.tuple (ns.map .int)]) : EvI c (iEnumA c.K tr) Γ true (ns.zipIdx.map pairI) := enumI_ints ns ▸ i_enumT h
end Lm
namespace Lm
open PySem PySem.Spec PyProof.Rows L2
def imI (n : Int) : Im := .d (.int n)
theorem i_seqTI {c : Ct} {Γ : List (Option Rs)} {tl : TE} {k : Kd} {ns : List Int} (h : Ev c tl Γ k (.tuple (ns.map .int))) (hk : k ≠ .b) : EvI c (iSeq c.K tl) Γ true (ns.map imI) := by
  have := i_seqT h hk
  rwa [List.map_map] at this
theorem kv_ne : Kd.v ≠ Kd.b := fun h => nomatch h
end Lm


/-! the rules, the written part given by name (within a comprehension's block it may not be read off the context) -/
namespace Lm
open PySem PySem.Spec PyProof.Rows L2
section
variable {X : Cx} {K : PySem.W.Frag} (hK : X.K = K)
include hK
theorem k_add : OpR X (binaryOp .Add) (rAddA K) := hK ▸ op_addA
theorem k_eq (hu : X.A.units + 64 < cLine) : OpR X (compareOp .Eq) (rEqA K) := hK ▸ op_eqA hu
theorem k_ne (hu : X.A.units + 64 < cLine) : OpR X (compareOp .NotEq) (rNeA K) := hK ▸ op_neA hu
theorem k_ix : IxR X (rIx K) := hK ▸ ix_seq
theorem k_slT : SlR X (rSlN K) := hK ▸ sl_tupN
theorem k_isi : CallR X (.builtin "isinstance") (rIsi K) := hK ▸ call_isi
theorem k_len : CallR X (.builtin "len") (rLen K) := hK ▸ cr_len
theorem k_all (hc : X.calm = true) : CallR X (.builtin "all") (rAll K) := hK ▸ cr_all hc
theorem k_sum (hc : X.calm = true) : CallR X (.builtin "sum") (rSumA K) := hK ▸ cr_sumA hc
theorem k_tuple : CallR X (.type "tuple") (rTuple K) := hK ▸ cr_tuple
theorem k_list : CallR X (.type "list") (rListA K) := hK ▸ cr_list
theorem k_maxD (hc : X.calm = true) : CallRK X (.builtin "max") [Str.ofString "default"] (rMaxDT K) := hK ▸ cr_maxD hc
theorem k_count : MtR X "tuple.count" (rCountT K) := hK ▸ mt_tcount
theorem k_seq {e tg : Expr} {tl : TE} (h : PE X e tl) : PI X tg e (iSeq K tl) := hK ▸ pi_seq h
theorem k_enum {e : Expr} {ta : TA} {p pos tpos : Pos} {elts : List Expr} {kk : Nat} (hg : Gl X "enumerate") (hm : X.mg "enumerate" = none) (ha : PA X [e] ta) (hs : starEach [e] X.env = [(false, eval e X.env)] := by rfl) :
    PI X (.Tuple elts kk tpos) (.Call (.Name "enumerate" p) [e] [] pos) (iEnumA K ta) := hK ▸ pi_enumA hg hm ha hs
theorem k_zip {e e2 : Expr} {ta : TA} {p pos tpos : Pos} {elts : List Expr} {kk : Nat} (hg : Gl X "zip") (hm : X.mg "zip" = none) (ha : PA X [e, e2] ta)
    (hs : starEach [e, e2] X.env = (false, eval e X.env) :: starEach [e2] X.env := by rfl) (hpl : (backTo pos (starEach [e2] X.env)).any (·.1) = false := by rfl) :
    PI X (.Tuple elts kk tpos) (.Call (.Name "zip" p) [e, e2] [] pos) (RZ.iZipA K ta) := hK ▸ RZ.pi_zipA hg hm ha hs hpl
theorem k_tup {es : List Expr} {k : Nat} {t : TGs} {n : Nat} {pos : Pos} (hc : X.calm = true) (h : PGs X es t)
    (hn : (assignEach es X.env).length = n := by rfl) (hst : (assignEach es X.env).findIdx? (·.1) = none := by rfl) : PG X (.Tuple es k pos) (gTup K n t) := hK ▸ pg_tup hc h hn hst
theorem k_tm {name : Str} {id : String} {r : V → List V → Hp → VK → Prop} {o e : Expr} {es : List Expr} {to : TE} {t : TA} {apos cpos : Pos} (slot : Slot "tuple" name id) (hty : typeOf (.builtin id) = pure (.type "method_descriptor")) (hm : MtR X id r) (ho : PE X o to) (ha : PA X (e :: es) t)
    (hbase : attributeBase o name X.env (eval o X.env) = eval o X.env := by rfl)
    (hfew : ((backTo cpos (starEach (e :: es) X.env)).all (fun x => !x.1) && (backToKw cpos (keywordEach [] X.env)).all (fun x => x.1.isSome) && decide ((e :: es).length + ([] : List Keyword).length + (if ([] : List Keyword).isEmpty then 0 else 1) < 30)) = true := by rfl)
    (hline : (apos.endLine == cpos.line) = true := by rfl) (hs : starEach (e :: es) X.env = (false, eval e X.env) :: starEach es X.env := by rfl) (hplain : (backTo cpos (starEach es X.env)).any (·.1) = false := by rfl) :
    PE X (.Call (.Attribute o name apos) (e :: es) [] cpos) (tTM K r to t) := hK ▸ pe_tm slot hty hm ho ha hbase hfew hline hs hplain
theorem k_bm {T : String} {name : Str} {id : String} {r : V → List V → Hp → VK → Prop} {o e : Expr} {es : List Expr} {to : TE} {t : TA} {apos cpos : Pos} (pa : PlainAttrs T) (slot : Slot T name id) (hty : typeOf (.builtin id) = pure (.type "method_descriptor")) (hm : MtR X id r) (ho : PE X o to) (ha : PA X (e :: es) t)
    (hbase : attributeBase o name X.env (eval o X.env) = eval o X.env := by rfl)
    (hfew : ((backTo cpos (starEach (e :: es) X.env)).all (fun x => !x.1) && (backToKw cpos (keywordEach [] X.env)).all (fun x => x.1.isSome) && decide ((e :: es).length + ([] : List Keyword).length + (if ([] : List Keyword).isEmpty then 0 else 1) < 30)) = true := by rfl)
    (hline : (apos.endLine == cpos.line) = true := by rfl) (hs : starEach (e :: es) X.env = (false, eval e X.env) :: starEach es X.env := by rfl) (hplain : (backTo cpos (starEach es X.env)).any (·.1) = false := by rfl) :
    PE X (.Call (.Attribute o name apos) (e :: es) [] cpos) (tBM K T r to t) := hK ▸ pe_bm pa slot hty hm ho ha hbase hfew hline hs hplain
end
end Lm


/-! the law's own start and end -/
namespace Lm
open PySem PySem.Spec PyProof.Rows L2
variable {c : Ct} {H H' H0 H1 H2 H3 : Hp} {O : List Addr} {σ : L2.St} {Γ Γ' Γ1 : List (Option Rs)}
variable {te ta tb tx tl : TE} {tt tu : TT} {tr : TA} {k ka kb kc : Kd} {d x y z : PyData} {i j : Int} {a b : Bool} {kv fz : Bool} {ds es : List PyData}
/-- law's: a list of at most 63 ints is handed in, True comes out -/
def spLaw (K : PySem.W.Frag) : Sp := fun vs H Q _ => ∃ (a : Addr) (ns : List Int), vs = [.ref a] ∧ SqL K H a (ns.map V.int) ∧ ns.length ≤ 63 ∧ ∀ H', Q (.bl true) H'
def spStream (K : PySem.W.Frag) : Sp := fun vs H Q _ => ∃ (a : Addr) (ns : List Int), vs = [.ref a] ∧ SqL K H a (ns.map V.int) ∧ ns.length ≤ 63 ∧ ∀ st l H', Same H H' → H st = none → Str1 K st l H' → Q (.ref st) H'
theorem run_law {K : PySem.W.Frag} {N : List Str} {t : TS} {vs : List V} {Q : VK} {E E' : XK} (hN : 2 ≤ N.length)
    (hs : ∀ st l, Sd (sc K st l) t (none :: some (.r (.ref st)) :: List.replicate (N.length - 2) none) (fun o => o = .rt .v (.bool true))) (h : spLaw K vs H Q E) :
    tSeq (tAsg (tCall (spStream K) [] E' (tCons (tVar 0) tNil)) (gName 1)) t { nx := fun _ H' => Q .non H', rt := Q } (start N vs) H := by
  obtain ⟨a, ns, rfl, hS, hl, hq⟩ := h
  have es : start N [.ref a] = some (.ref a) :: List.replicate (N.length - 1) none := rfl
  rw [es]
  refine ⟨.ref a, rfl, a, ns, rfl, hS, hl, fun st l H1 sm hst str => ?_⟩
  have j : Ji (sc K st l) H1 := fun st' l' e => by cases e; exact str
  refine hs st l H1 [] H1 _ _ ⟨Rr.same (by rw [mns_nil]; exact Same.refl _), by rw [mns_nil]; exact j, (fun _ h => nomatch h), (fun _ h => nomatch h), [], ?_, List.nodup_nil, (fun _ h => nomatch h)⟩ fun o po => ?_
  · have e2 : List.replicate (N.length - 1) (none : Option V) = none :: List.replicate (N.length - 2) none := by
      have : N.length - 1 = (N.length - 2) + 1 := by omega
      rw [this, List.replicate_succ]
    rw [e2]
    exact .cons (f := []) (fs := []) rfl (.cons (f := []) (fs := []) ⟨rfl, rfl⟩ (reps_none _))
  · subst po
    intro v H' _ rt
    have := rt.2.bl'
    subst this
    exact hq H'
/-! one of several answers -/
theorem n_bin {r : R2} {Pa Pb P : PyData → Prop} (ha : EvN c ta Γ ka Pa) (hb : EvN c tb Γ kb Pb)
    (hr : ∀ x y, Pa x → Pb y → ∃ z, P z ∧ ∀ H O v u (Q : VK), Bo c H v x → Bo c H u y → (∀ v' H2, Rr c H H2 → Bo c (mns H2 O) v' z → Q v' H2) → r v u H Q) : EvN c (tOp r ta tb) Γ .v P := fun H0 O H σ e Q q =>
  ha H0 O H σ e _ fun v x H1 px r1 s1 => hb H0 O H1 σ (e.on r1) _ fun u y H2 py r2 s2 => by
    obtain ⟨z, pz, hz⟩ := hr x y px py
    exact hz H2 O v u Q (Res.bo e (Res.on e r1 r2 s1)) (Res.bo (e.on r1) s2) fun v' H3 r3 b => q v' z H3 pz ((r1.tr r2).tr r3) b
/-- some int with Q -/
abbrev SomeI (Q : Int → Prop) : PyData → Prop := fun d => ∃ n : Int, d = .int n ∧ Q n
theorem n_add {Qa Qb Q : Int → Prop} (ha : EvN c ta Γ ka (SomeI Qa)) (hb : EvN c tb Γ kb (SomeI Qb)) (h : ∀ m n, Qa m → Qb n → Q (m + n)) : EvN c (tOp (rAddA c.K) ta tb) Γ .v (SomeI Q) :=
  n_bin ha hb fun x y ⟨m, hm, qm⟩ ⟨n, hn, qn⟩ => ⟨.int (m + n), ⟨_, rfl, h m n qm qn⟩, fun H O v u Q bv bu q => by
    subst hm; subst hn
    exact .inl ⟨m, n, bv.int', bu.int', q _ H Rr.rf (.int _)⟩⟩
theorem Ev.sm {Q : Int → Prop} (h : Ev c te Γ k (.int i)) (q : Q i) : EvN c te Γ k (SomeI Q) := h.n.imp fun d e => ⟨i, e, q⟩
/-- a comparison of drawn ints, as a test of either answer -/
theorem tn_cmp {r : R2} {Qa Qb : Int → Prop} (ha : EvN c ta Γ ka (SomeI Qa)) (hb : EvN c tb Γ kb (SomeI Qb))
    (hr : ∀ m n H (Q : VK), (∀ b, Q (.bl b) H) → r (.int m) (.int n) H Q) : EvTN c (tTest (tOp r ta tb)) Γ := fun H0 O H σ e Q q =>
  ha H0 O H σ e _ fun v x H1 ⟨m, hm, _⟩ r1 s1 => hb H0 O H1 σ (e.on r1) _ fun u y H2 ⟨n, hn, _⟩ r2 s2 => by
    subst hm; subst hn
    rw [(Res.bo e (Res.on e r1 r2 s1)).int', (Res.bo (e.on r1) s2).int']
    exact hr m n H2 _ fun b => ⟨b, rfl, q b H2 (r1.tr r2)⟩
theorem tn_eq {Qa Qb : Int → Prop} (ha : EvN c ta Γ ka (SomeI Qa)) (hb : EvN c tb Γ kb (SomeI Qb)) : EvTN c (tTest (tOp (rEqA c.K) ta tb)) Γ :=
  tn_cmp ha hb fun m n H Q q => .inl ⟨rfl, q _⟩
end Lm


/-! what the defs promise -/
namespace Lm
open PySem PySem.Spec PyProof.Rows L2
/-- is an int from lo to hi -/
def isIntD : PyData → Int → Int → Bool
  | .int i, lo, hi => decide (lo ≤ i) && decide (i ≤ hi)
  | _, _, _ => false
def isIntTy : PyData → Bool
  | .int _ => true
  | .bool _ => true
  | _ => false
def isBoolTy : PyData → Bool
  | .bool _ => true
  | _ => false
theorem kit_int (x : PyData) : kitB (tyD x) "int" = some (isIntTy x) := by cases x <;> (simp only [tyD, isIntTy, isBoolTy]; decide +kernel)
theorem kit_bool (x : PyData) : kitB (tyD x) "bool" = some (isBoolTy x) := by cases x <;> (simp only [tyD, isIntTy, isBoolTy]; decide +kernel)
def sp_is_integer (K : PySem.W.Frag) : Sp := spD K fun ds k d => ∃ x lo hi, ds = [x, .int lo, .int hi] ∧ k = .v ∧ d = .bool (isIntD x lo hi)


def sp_require (K : PySem.W.Frag) : Sp := spD K fun ds k d => ∃ nm, ds = [.bool true, .str nm] ∧ k = .v ∧ d = .none
/-- a tuple of ints from lo to hi -/
def areInts : PyData → Int → Int → Bool
  | .tuple ds, lo, hi => ds.all fun d => isIntD d lo hi
  | _, _, _ => false
def isTupTy : PyData → Bool
  | .tuple _ => true
  | _ => false
theorem kit_tuple (x : PyData) : kitB (tyD x) "tuple" = some (isTupTy x) := by cases x <;> (simp only [tyD, isTupTy]; decide +kernel)
/-- tuples are not too long -/
def SmallT (x : PyData) : Prop := ∀ es, x = .tuple es → es.length ≤ 1000000
def sp_are_integers (K : PySem.W.Frag) : Sp := spD K fun ds k d => ∃ x lo hi, ds = [x, .int lo, .int hi] ∧ SmallT x ∧ k = .v ∧ d = .bool (areInts x lo hi)
theorem isInt_int {d : PyData} {lo hi : Int} (h : isIntD d lo hi = true) : ∃ n, d = .int n ∧ lo ≤ n ∧ n ≤ hi := by
  cases d with
  | int i =>
    simp only [isIntD, Bool.and_eq_true, decide_eq_true_eq] at h
    exact ⟨i, rfl, h.1, h.2⟩
  | _ => simp [isIntD] at h
theorem areInts_ints {x : PyData} {lo hi : Int} (h : areInts x lo hi = true) : ∃ ns : List Int, x = .tuple (ns.map .int) ∧ ∀ n ∈ ns, lo ≤ n ∧ n ≤ hi := by
  cases x with
  | tuple ds =>
    have h' : (ds.all fun d => isIntD d lo hi) = true := h
    clear h
    induction ds with
    | nil => exact ⟨[], rfl, fun _ h => nomatch h⟩
    | cons d ds ih =>
      rw [List.all_cons, Bool.and_eq_true] at h'
      obtain ⟨n, rfl, h1, h2⟩ := isInt_int h'.1
      obtain ⟨ns, e, h3⟩ := ih h'.2
      refine ⟨n :: ns, by rw [PyData.tuple.inj e]; rfl, fun m hm => ?_⟩
      rcases List.mem_cons.mp hm with q | q
      · rw [q]; exact ⟨h1, h2⟩
      · exact h3 m q
  | _ => simp [areInts] at h
theorem areInts_of {ns : List Int} {lo hi : Int} (h : ∀ n ∈ ns, lo ≤ n ∧ n ≤ hi) : areInts (.tuple (ns.map .int)) lo hi = true := by
  show ((ns.map PyData.int).all fun d => isIntD d lo hi) = true
  rw [List.all_map, List.all_eq_true]
  intro n hn
  have := h n hn
  simp [isIntD, this.1, this.2]


def lenT : PyData → Nat
  | .tuple ds => ds.length
  | _ => 0
def intD : PyData → Int
  | .int i => i
  | _ => 0
def sumT : PyData → Int
  | .tuple ds => (ds.map intD).sum
  | _ => 0
theorem lenT_ints (ns : List Int) : lenT (.tuple (ns.map .int)) = ns.length := by simp [lenT]
theorem sumT_ints (ns : List Int) : sumT (.tuple (ns.map .int)) = ns.sum := by
  have : (intD ∘ PyData.int) = id := rfl
  simp [sumT, this]
def isAlloc (x : PyData) (n b : Int) : Bool := areInts x 0 b && (decide ((lenT x : Int) = n) && decide (sumT x = b))
def sp_is_allocation (K : PySem.W.Frag) : Sp := spD K fun ds k d => ∃ x n b, ds = [x, .int n, .int b] ∧ SmallT x ∧ k = .v ∧ d = .bool (isAlloc x n b)
def isBAsg (x : PyData) (v : Int) : Bool := areInts x 0 (v - 1) && decide ((lenT x : Int) ≤ 20)
def sp_is_bounded_assignment (K : PySem.W.Frag) : Sp := spD K fun ds k d => ∃ x v, ds = [x, .int v] ∧ SmallT x ∧ k = .v ∧ d = .bool (isBAsg x v)
def sp_check_assignment (K : PySem.W.Frag) : Sp := spD K fun ds k d => ∃ x nm, ds = [x, .str nm] ∧ SmallT x ∧ isBAsg x 5 = true ∧ k = .v ∧ d = .none
def sp_check_enough (K : PySem.W.Frag) : Sp := spD K fun ds k d => ∃ (v : Int) (ns : List Int), ds = [.int v, .tuple (ns.map .int)] ∧ mxD 0 ns + 1 ≤ v ∧ v ≤ 5 ∧ k = .v ∧ d = .none


/-- how often each variant occurs -/
def countsI (ns : List Int) (v : Int) : List Int := (upI 0 v.toNat).map fun i => (ns.count i : Int)
theorem mxOf_le : ∀ (ns : List Int) (m b : Int), m ≤ b → (∀ n ∈ ns, n ≤ b) → mxOf m ns ≤ b
  | [], m, b, h, _ => h
  | n :: ns, m, b, h, g => by
    show mxOf (if n > m then n else m) ns ≤ b
    refine mxOf_le ns _ b ?_ fun x hx => g x (by simp [hx])
    split
    · exact g n (by simp)
    · exact h
theorem mxD_le {ns : List Int} {b : Int} (h0 : 0 ≤ b) (h : ∀ n ∈ ns, n ≤ b) : mxD 0 ns ≤ b := by
  cases ns with
  | nil => exact h0
  | cons n ns => exact mxOf_le ns n b (h n (by simp)) fun x hx => h x (by simp [hx])
/-- an assignment of at most 20 buckets to v variants -/
structure Asg (ns : List Int) (v : Int) : Prop where
  len : ns.length ≤ 20
  rng : ∀ n ∈ ns, 0 ≤ n ∧ n < v
theorem Asg.bAsg {ns : List Int} {v w : Int} (h : Asg ns v) (hw : v ≤ w) : isBAsg (.tuple (ns.map .int)) w = true := by
  unfold isBAsg
  rw [areInts_of fun n hn => ⟨(h.rng n hn).1, by have := (h.rng n hn).2; omega⟩, lenT_ints]
  have := h.len
  simp
  omega
theorem small_ints {ns : List Int} (h : ns.length ≤ 1000000) : SmallT (.tuple (ns.map .int)) := fun es e => by
  rw [← PyData.tuple.inj e]
  simpa using h
theorem Asg.small {ns : List Int} {v : Int} (h : Asg ns v) : SmallT (.tuple (ns.map .int)) := small_ints (by have := h.len; omega)
def sp_allocation_of (K : PySem.W.Frag) : Sp := spD K fun ds k d => ∃ (ns : List Int) (v : Int), ds = [.tuple (ns.map .int), .int v] ∧ Asg ns v ∧ 1 ≤ v ∧ v ≤ 5 ∧ k = .v ∧ d = .tuple ((countsI ns v).map .int)
def sp__law_next (K : PySem.W.Frag) : Sp := spS K fun ds k P => ∃ m : Int, ds = [.int m] ∧ 0 < m ∧ m < 1073741824 ∧ k = .v ∧ P = fun d => ∃ n : Int, d = .int n ∧ 0 ≤ n ∧ n < m
theorem Str1.put {K : PySem.W.Frag} {st l : Addr} {H : Hp} {ns : List Int} {x k : Int} (h2 : H l = some (.lst (ns.map V.int))) (h3 : l ≠ st) (h4 : 0 ≤ k) : Str1 K st l (upd H st (.lst [.ref l, .int x, .int k])) :=
  ⟨ns, x, k, upd_same, by rw [upd_ne h3]; exact h2, h3, h4⟩


/-! the law's helpers -/

def sp__law_stream := spStream
def isIntNB : PyData → Bool
  | .int _ => true
  | _ => false
def sp__law_is_integer (K : PySem.W.Frag) : Sp := spD K fun ds k d => ∃ x, ds = [x] ∧ k = .v ∧ d = .bool (isIntNB x)
/-- data that _law_equal may look at, to some depth -/
inductive EqOk : Nat → PyData → Prop
  | non {n} : EqOk n .none
  | bl {n} (b : Bool) : EqOk n (.bool b)
  | int {n} (i : Int) : EqOk n (.int i)
  | str {n} (s : Str) : EqOk n (.str s)
  | lst {n} {xs : List PyData} : xs.length ≤ 1000000 → (∀ x ∈ xs, EqOk n x) → EqOk (n + 1) (.list xs)
  | tup {n} {xs : List PyData} : xs.length ≤ 1000000 → (∀ x ∈ xs, EqOk n x) → EqOk (n + 1) (.tuple xs)
def spEq (K : PySem.W.Frag) : Nat → Sp
  | 0 => fun _ _ _ _ => False
  | n + 1 => spD K fun ds k d => ∃ x, ds = [x, x] ∧ EqOk n x ∧ k = .v ∧ d = .bool true
def sp__law_equal (K : PySem.W.Frag) : Sp := spEq K 8
theorem EqOk.ints {n : Nat} {ns : List Int} (h : ns.length ≤ 1000000) : EqOk (n + 1) (.tuple (ns.map .int)) := .tup (by simpa using h) fun x hx => by
  obtain ⟨i, _, rfl⟩ := List.mem_map.mp hx
  exact .int i
theorem EqOk.up {n : Nat} {x : PyData} (h : EqOk n x) : ∀ {m : Nat}, n ≤ m → EqOk m x := by
  induction h with
  | non => intro m _; exact .non
  | bl b => intro m _; exact .bl b
  | int i => intro m _; exact .int i
  | str s => intro m _; exact .str s
  | lst hl _ ih =>
    intro m hm
    cases m with
    | zero => omega
    | succ m => exact .lst hl fun x hx => ih x hx (by omega)
  | tup hl _ ih =>
    intro m hm
    cases m with
    | zero => omega
    | succ m => exact .tup hl fun x hx => ih x hx (by omega)


theorem upI0 (v : Nat) : upI 0 v = (List.range v).map fun (i : Nat) => (i : Int) := by
  unfold upI
  apply List.map_congr_left
  intro i _
  omega
theorem upI_count {v : Nat} {n : Int} (h0 : 0 ≤ n) (h1 : n < v) : (upI 0 v).count n = 1 := by
  obtain ⟨m, rfl⟩ := Int.eq_ofNat_of_zero_le h0
  have hm : m < v := by omega
  rw [upI0, List.count_eq_countP, List.countP_map]
  have e : ((fun x : Int => x == (m : Int)) ∘ fun (i : Nat) => (i : Int)) = fun i : Nat => i == m := by
    funext i
    show ((i : Int) == (m : Int)) = (i == m)
    rw [Bool.eq_iff_iff]
    simp
    omega
  rw [e]
  have : List.countP (fun i => i == m) (List.range v) = (List.range v).count m := rfl
  rw [this, List.nodup_range.count]
  simp [hm]
theorem count_sum (v : Nat) : ∀ ns : List Int, (∀ n ∈ ns, 0 ≤ n ∧ n < (v : Int)) → ((upI 0 v).map fun i => (ns.count i : Int)).sum = ns.length := by
  intro ns
  induction ns with
  | nil =>
    intro _
    generalize upI 0 v = l
    induction l with
    | nil => rfl
    | cons a l ih =>
      rw [List.map_cons, List.sum_cons, ih]
      rfl
  | cons n ns ih =>
    intro hv
    have ih' := ih fun m hm => hv m (by simp [hm])
    have hn := hv n (by simp)
    have key : ∀ l : List Int, (l.map fun i => ((n :: ns).count i : Int)).sum = (l.map fun i => (ns.count i : Int)).sum + l.count n := by
      intro l
      induction l with
      | nil => rfl
      | cons a l ihl =>
        rw [List.map_cons, List.sum_cons, List.map_cons, List.sum_cons, ihl, List.count_cons, List.count_cons]
        by_cases h : n = a
        · subst h
          rw [beq_self_eq_true, if_pos rfl]
          omega
        · rw [beq_eq_false_iff_ne.mpr h, beq_eq_false_iff_ne.mpr (fun e => h e.symm)]
          simp
          omega
    rw [key, ih', upI_count hn.1 hn.2]
    simp
theorem upI_get {lo : Int} {n m : Nat} {a : Im} (h : ((upI lo n).map fun i => Im.d (.int i))[m]? = some a) : ∃ i : Int, a = .d (.int i) ∧ lo ≤ i ∧ i < lo + n := by
  unfold upI at h
  rw [List.map_map, List.getElem?_map] at h
  cases q : (List.range n)[m]? with
  | none => rw [q] at h; cases h
  | some j =>
    rw [q] at h
    have hj : j < n := List.mem_range.mp (List.mem_of_getElem? q)
    exact ⟨lo + j, (Option.some.inj h).symm, by omega, by omega⟩
def isListTy : PyData → Bool
  | .list _ => true
  | _ => false
def isStrTy : PyData → Bool
  | .str _ => true
  | _ => false
theorem kit_list (x : PyData) : kitB (tyD x) "list" = some (isListTy x) := by cases x <;> (simp only [tyD, isListTy]; decide +kernel)
theorem kit_str (x : PyData) : kitB (tyD x) "str" = some (isStrTy x) := by cases x <;> (simp only [tyD, isStrTy]; decide +kernel)
theorem atI_i {ds : List PyData} {i : Nat} {d : PyData} (h : ds[i]? = some d) : atI ds ((0 : Int) + (i : Int)) = some d := by rw [Int.zero_add]; exact atI_nat h

end Lm


/-! more rules: a list unpacked, tuple.index of an int, the number of a tuple's different ints, list.pop(i) -/
namespace Lm
open PySem PySem.Spec PyProof.Rows L2
section
variable {prog : Program} {w : World} {A : Around} {E : Value → Shared → Prop} {s : Shared}
theorem drawL {it t : Addr} {items : Array Value} (hne : t ≠ it) : ∀ (n i : Nat) (s : Shared) (Q : List Value → Shared → Prop), s.heap.IsListIter it t i → s.heap.IsList t items → i + n ≤ items.size →
    (∀ h', h'.IsListIter it t (i + n) → Heap.SameBut it s.heap h' → Q ((items.toList.drop i).take n) { s with heap := h' }) → wpAny (model prog w) A (draw (.ref it) n) Q E s
  | 0, i, s, Q, hit, _, _, hQ => by
    show wpAny _ _ (pure []) Q E s
    exact wpAny_pure (by simpa using hQ s.heap hit (Heap.SameBut.refl ..))
  | n + 1, i, s, Q, hit, ht, hle, hQ => by
    have hlt : i < items.size := by omega
    show wpAny _ _ (pyNext (.ref it) >>= _) Q E s
    refine wpAny_bind (wpAny_pyNext_list_item hit ht (x := items[i]) (by simp [hlt]) fun h₁ hit₁ hs₁ => ?_)
    refine wpAny_bind (wpAny_holding (drawL hne n (i + 1) _ _ hit₁ (ht.extBut hs₁.extBut hne) (by omega) fun h₂ hit₂ hs₂ => wpAny_pure ?_))
    have e1 : items.toList.drop i = items[i] :: items.toList.drop (i + 1) := by simp [List.drop_eq_getElem_cons, hlt]
    have e2 := hQ h₂ (by rw [show i + (n + 1) = i + 1 + n by omega]; exact hit₂) (hs₁.trans hs₂)
    rw [e1, List.take_succ_cons] at e2
    exact e2
theorem unpackL {t : Addr} {items : Array Value} {Q : List Value → Shared → Prop} (hh : A.handled = none) (ht : s.heap.IsList t items)
    (hQ : ∀ h', Heap.ExtBut s.heap.objs.size s.heap h' → Q items.toList { s with heap := h' }) : wpAny (model prog w) A (unpackItems (.ref t) items.size none) Q E s := by
  have hlt : t ≠ s.heap.objs.size := by obtain ⟨o, ho, _⟩ := ht; exact Nat.ne_of_lt (Heap.lt_size ho)
  unfold unpackItems
  refine wpAny_bind ?_
  · unfold notIterableAtAll
    refine wpAny_bind (wpAny_specialOf ht.typeIs F.slot_list_iter.lookup ?_)
    refine wpAny_pure ?_
    simp only [Bool.false_eq_true, if_false]
    refine wpAny_bind (wpAny_holding (wpAny_pyIter_list ht ?_))
    refine wpAny_bind (wpAny_holding (drawL hlt items.size 0 _ _ ⟨_, Heap.get?_push_size _ rfl, rfl, rfl⟩ (ht.push _) (by omega) fun h₁ hit₁ hs₁ => ?_))
    have e1 : List.take items.size (List.drop 0 items.toList) = items.toList := by
      rw [List.drop_zero]; exact List.take_of_length_le (by simp)
    rw [e1, if_neg (by simp)]
    have ht₁ : h₁.IsList t items := (ht.push _).extBut hs₁.extBut hlt
    refine wpAny_bind (wpAny_holding (wpAny_pyNext_list_end hh hit₁ ht₁ (by simp) fun h₂ he₂ => ?_))
    simp only [Option.isSome_none, Bool.false_eq_true, if_false]
    exact wpAny_pure (hQ h₂ fun b o hb e => he₂ b o hb (hs₁.extBut b o hb (Heap.get?_push_of_some _ e)))
theorem assignTupL {env : PySem.Env} {elts : List Expr} {x1} {pos : Pos} {t : Addr} {items : Array Value} {Q : Unit → Shared → Prop} (hh : A.handled = none) (ht : s.heap.IsList t items)
    (hn : (assignEach elts env).length = items.size) (hstar : (assignEach elts env).findIdx? (·.1) = none)
    (h : ∀ h', Heap.ExtBut s.heap.objs.size s.heap h' → wpAny (model prog w) A (assignInOrder ((assignEach elts env).map (·.2)) items.toList) Q E { s with heap := h' }) :
    wpAny (model prog w) A (assign (.Tuple elts x1 pos) env (.ref t)) Q E s := by
  rw [arm_assign_Tuple]
  refine wpAny_bind (wpAny_standAt ?_)
  unfold unpack
  rw [hn, hstar]
  exact wpAny_bind (wpAny_holding (unpackL hh ht h))
end
/-- (a, b, ..) = a tuple or a list of that length -/
def gTupA (K : PySem.W.Frag) (n : Nat) (t : TGs) : TG := fun v σ H Q => ∃ a xs, v = .ref a ∧ (SqT K H a xs ∨ SqL K H a xs) ∧ xs.length = n ∧ t xs σ H Q
section
variable {X : Cx}
theorem pg_tupA {es : List Expr} {k : Nat} {t : TGs} {n : Nat} {pos : Pos} (hc : X.calm = true) (h : PGs X es t)
    (hn : (assignEach es X.env).length = n := by rfl) (hst : (assignEach es X.env).findIdx? (·.1) = none := by rfl) : PG X (.Tuple es k pos) (gTupA X.K n t) := by
  refine ⟨fun pins s σ H v u Q I r hw => ?_⟩
  obtain ⟨a, xs, e1, hq, hl, hw⟩ := hw
  rcases hq with hq | hq
  · exact (pg_tup hc h hn hst).run pins s σ H v u Q I r ⟨a, xs, e1, hq, hl, hw⟩
  · subst e1
    cases r
    obtain ⟨its, rv, ht, hz⟩ := I.list hq
    refine assignTupL (I.ok.hd hc) ht.isList (by simp [hn, ← hl, rv.length]) hst fun h' hx => ?_
    have I1 : Inv X pins σ H { s with heap := h' } := I.kept (t' := s.toks) fun b o e => hx b o (Nat.ne_of_lt (Heap.lt_size e)) e
    exact h.run pins _ σ H xs _ Q I1 (by simpa using rv) hw
theorem length_sub : ∀ {as bs : List Int}, as.Nodup → (∀ k, k ∈ as → k ∈ bs) → as.length ≤ bs.length
  | [], _, _, _ => Nat.zero_le _
  | a :: as, bs, ha, h => by
    have hm : a ∈ bs := h a (by simp)
    obtain ⟨hna, hnd⟩ := List.nodup_cons.mp ha
    have := length_sub (bs := bs.erase a) hnd fun k q => (List.mem_erase_of_ne fun (z : k = a) => hna (by rw [← z]; exact q)).mpr (h k (by simp [q]))
    rw [List.length_erase_of_mem hm] at this
    have : 0 < bs.length := List.length_pos_of_mem hm
    simp only [List.length_cons]
    omega
end
section
variable {X : Cx} {K : PySem.W.Frag} (hK : X.K = K)
include hK
theorem k_tupA {es : List Expr} {k : Nat} {t : TGs} {n : Nat} {pos : Pos} (hc : X.calm = true) (h : PGs X es t)
    (hn : (assignEach es X.env).length = n := by rfl) (hst : (assignEach es X.env).findIdx? (·.1) = none := by rfl) : PG X (.Tuple es k pos) (gTupA K n t) := hK ▸ pg_tupA hc h hn hst
end
end Lm


namespace Lm
open PySem PySem.Spec PyProof.Rows L2
variable {c : Ct} {H H' H0 H1 H2 H3 : Hp} {O : List Addr} {σ : L2.St} {Γ Γ' Γ1 : List (Option Rs)}
variable {te ta tb tx tl : TE} {tt tu : TT} {tr : TA} {k ka kb kc : Kd} {d x y z : PyData} {i j : Int} {a b : Bool} {kv fz : Bool} {ds es : List PyData}
/-! ### zip of two tuples -/
def zipD (ds es : List PyData) : List Im := (ds.zip es).map fun p => .t [.d p.1, .d p.2]
theorem walk_zipT {K : PySem.W.Frag} {p q : Addr} {xs ys : List V} {n : Nat} (hn : n = min xs.length ys.length) : Walk (RZ.ItzT K p q) n (fun H => SqT K H p xs ∧ SqT K H q ys) (YPair (fun i => xs[i]?) (fun i => ys[i]?)) where
  goes := fun i _ hi w => ⟨xs, ys, xs[i]'(by omega), ys[i]'(by omega), w.1, w.2, List.getElem?_eq_getElem (by omega), List.getElem?_eq_getElem (by omega)⟩
  stops := fun _ w => ⟨xs, ys, w.1, w.2, by omega⟩
  yields := fun i H v H' _ w ⟨T, x, z, h1, h2, h3, h4, h5⟩ => ⟨T, x, z, h1, h2, h3, h4 xs w.1, h5 ys w.2⟩
theorem i_zipT (h : EvA c tr Γ true [.tuple ds, .tuple es]) : EvI c (RZ.iZipA c.K tr) Γ true (zipD ds es) := fun H0 O H σ e R q =>
  h H0 O H σ e _ fun vs H1 r s => by
    obtain ⟨x, y, rfl, b1, b2⟩ := (BoAll.vm s).two
    obtain ⟨p, xs, rfl, sl, al⟩ := b1.tup'
    obtain ⟨p2, ys, rfl, sl2, al2⟩ := b2.tup'
    refine ⟨p, p2, xs, ys, rfl, .inr ⟨(sqT_same mns_same sl).sq, (sqT_same mns_same sl2).sq, q _ H1 r ⟨(e.on r).j, ?_⟩⟩⟩
    have hl : (zipD ds es).length = min xs.length ys.length := by rw [al.len, al2.len]; simp [zipD]
    refine (walk_zipT hl).mono (fun H h => ⟨(h.tup (e.on r).j sl).sq, (h.tup (e.on r).j sl2).sq⟩) fun i H v H' hi g w => ?_
    obtain ⟨T, u1, u2, rfl, hT, rfl, g1, g2⟩ := w
    obtain ⟨d1, hd1, bd1⟩ := al.get g1
    obtain ⟨d2, hd2, bd2⟩ := al2.get g2
    have sm : Same H (upd H T (.tup [u1, u2])) := fun b o z => by rw [upd_ne (ne_of_none z hT)]; exact z
    refine ⟨sm, .t [.d d1, .d d2], ?_, .tup (.inl (.inl upd_same)) (.cons (.leaf (.inr ⟨rfl, bd1⟩)) (.cons (.leaf (.inr ⟨rfl, bd2⟩)) .nil))⟩
    have : (ds.zip es)[i]? = some (d1, d2) := by rw [List.getElem?_zip_eq_some]; exact ⟨hd1, hd2⟩
    simp [zipD, this]
def zipI (p : Int × Int) : Im := .t [.d (.int p.1), .d (.int p.2)]
theorem i_zipTI {ns ms : List Int} (h : EvA c tr Γ true [.tuple (ns.map .int), .tuple (ms.map .int)]) : EvI c (RZ.iZipA c.K tr) Γ true ((ns.zip ms).map zipI) := by
  have e : zipD (ns.map .int) (ms.map .int) = (ns.zip ms).map zipI := by
    unfold zipD
    rw [List.zip_map, List.map_map]
    rfl
  exact e ▸ i_zipT h
/-! ### calls -/
theorem e_max2 (ha : Ev c ta Γ ka (.int i)) (hb : Ev c tb Γ kb (.int j)) : Ev c (tCB (fun xs H Q => ∃ i j, xs = [V.int i, V.int j] ∧ Q (.int (if j > i then j else i)) H) (tCons ta (tCons tb tNil))) Γ .v (.int (if j > i then j else i)) :=
  d_cb (a_cons ha (a_cons hb a_nil)) fun H O vs Q s q => by
    obtain ⟨y, z, rfl, b1, b2⟩ := s.two
    exact ⟨i, j, by rw [b1.int', b2.int'], q _ H Rr.rf (.int _)⟩
/-- list * int, the list a new one -/
theorem e_rep (h : Ev c ta Γ .o (.list ds)) (hf : flatAll ds = true) (hb : Ev c tb Γ kb (.int i)) (h1 : -(2 ^ 63) ≤ i) (h2 : i < 2 ^ 63) (hl : ds.length * i.toNat ≤ 1000000) : Ev c (tOp rMulA ta tb) Γ .o (.list (List.replicate i.toNat ds).flatten) := fun H0 O H σ e Q q =>
  h H0 O H σ e _ fun v H1 r1 s1 => hb H0 O H1 σ (e.on r1) _ fun u H2 r2 s2 => by
    obtain ⟨fp, f, nd, new⟩ : Res c O H H2 v (.list ds) .o := Res.on e r1 r2 s1
    obtain ⟨p, xs, g, rfl, rfl, hp, fa⟩ := f.list'
    obtain ⟨_, al⟩ := fa.flat0 hf
    refine .inr ⟨p, i, xs, rfl, (Res.bo (e.on r1) s2).int', hp, h1, h2, by rw [al.len]; exact sizeOk hl, fun p' hp' => ?_⟩
    have sm : Same H2 (upd H2 p' (.lst (List.replicate i.toNat xs).flatten)) := fun b o z => by rw [upd_ne (ne_of_none z hp')]; exact z
    have rep : ∀ n : Nat, BoAll c H2 (List.replicate n xs).flatten (List.replicate n ds).flatten := by
      intro n
      induction n with
      | zero => exact .nil
      | succ n ih => rw [List.replicate_succ, List.replicate_succ, List.flatten_cons, List.flatten_cons]; exact al.app ih
    have fl : ∀ n : Nat, flatAll (List.replicate n ds).flatten = true := by
      intro n
      refine flatAll_mem fun d hd => ?_
      obtain ⟨l, hl, hd⟩ := List.mem_flatten.mp hd
      rw [(List.mem_replicate.mp hl).2] at hd
      exact flatAll_one hf hd
    refine q _ _ ((r1.tr r2).tr (Rr.same sm)) ⟨[p'], .lst upd_same (FoAll.leaves (fl _) ((rep _).same sm)), by simp, fun a ha => ?_⟩
    cases List.mem_singleton.mp ha
    exact (r1.tr r2).back e.jH hp'
/-! ### unpacking -/
theorem q_unp {n : Nat} {gs : TGs} {u : TS} {P : Out → Prop} (Pd : PyData → Prop) (h : EvN c te Γ k Pd)
    (p : ∀ d, Pd d → ∃ ds Γ' js, (d = .tuple ds ∨ d = .list ds) ∧ flatAll ds = true ∧ ds.length = n ∧ EvGs c gs (ds.map Im.d) Γ Γ' js ∧ Sd c u Γ' P) : Sd c (tSeq (tAsg te (gTupA c.K n gs)) u) Γ P := fun H0 O H σ D e s =>
  h H0 O H σ e _ fun v d H2 pd r rs => by
    obtain ⟨ds, Γ', js, hd, hf, hn, hg, hu⟩ := p d pd
    have e2 := e.on r
    have key : ∃ a xs, v = .ref a ∧ (SqT c.K H2 a xs ∨ SqL c.K H2 a xs) ∧ BoAll c H2 xs ds := by
      rcases hd with rfl | rfl
      · obtain ⟨a, xs, rfl, sl, al⟩ := (Res.bo e rs).tup'
        exact ⟨a, xs, rfl, .inl sl.sq, al⟩
      · obtain ⟨a, xs, rfl, _, sl, al⟩ := (Res.bo e rs).lst'
        exact ⟨a, xs, rfl, .inr sl, al⟩
    obtain ⟨a, xs, rfl, sl, al⟩ := key
    exact ⟨a, xs, rfl, sl, al.len.trans hn, hg H0 O H2 σ H2 false xs e2 e2.jH Rr.rf (fun z => nomatch z) (.ofFlat hf al) _ fun σ' e' _ => hu H0 O H2 σ' D e' s⟩
end Lm


/-! what more defs promise: allocations, orders -/
namespace Lm
open PySem PySem.Spec PyProof.Rows L2
/-- an allocation of b buckets to v variants -/
structure Alc (ns : List Int) (v b : Int) : Prop where
  len : (ns.length : Int) = v
  sum : ns.sum = b
  nn : ∀ n ∈ ns, 0 ≤ n
theorem sum_nn : ∀ {ns : List Int}, (∀ n ∈ ns, 0 ≤ n) → 0 ≤ ns.sum
  | [], _ => by simp
  | n :: ns, h => by
    have h1 := sum_nn (ns := ns) fun m hm => h m (by simp [hm])
    have h2 := h n (by simp)
    simp only [List.sum_cons]; omega
theorem le_sum : ∀ {ns : List Int}, (∀ n ∈ ns, 0 ≤ n) → ∀ m ∈ ns, m ≤ ns.sum
  | [], _, m, hm => nomatch hm
  | n :: ns, h, m, hm => by
    have h1 := sum_nn (ns := ns) fun m hm => h m (by simp [hm])
    have h2 := h n (by simp)
    simp only [List.sum_cons]
    rcases List.mem_cons.mp hm with q | q
    · rw [q]; omega
    · have := le_sum (ns := ns) (fun m hm => h m (by simp [hm])) m q
      omega
theorem Alc.le {ns : List Int} {v b : Int} (h : Alc ns v b) : ∀ n ∈ ns, n ≤ b := fun n hn => h.sum ▸ le_sum h.nn n hn
theorem Alc.isAlloc {ns : List Int} {v b : Int} (h : Alc ns v b) : isAlloc (.tuple (ns.map .int)) v b = true := by
  unfold Lm.isAlloc
  rw [areInts_of fun n hn => ⟨h.nn n hn, h.le n hn⟩, lenT_ints, sumT_ints, h.len, h.sum]
  simp
def sp_is_bounded_allocation (K : PySem.W.Frag) : Sp := spD K fun ds k d => ∃ (ns : List Int) (v b : Int), ds = [.tuple (ns.map .int)] ∧ Alc ns v b ∧ 1 ≤ v ∧ v ≤ 5 ∧ b ≤ 20 ∧ k = .v ∧ d = .bool true
/-- what goes over from one to the other -/
def trI (ns ms : List Int) : Int := ((ns.zip ms).map fun p => if 0 > p.1 - p.2 then 0 else p.1 - p.2).sum
/-- the numbers from 0 to m - 1, each once -/
structure IsOrd (ns : List Int) (m : Int) : Prop where
  len : (ns.length : Int) = m
  nd : ns.Nodup
  rng : ∀ n ∈ ns, 0 ≤ n ∧ n < m
def placedI (ns os : List Int) : List Int := (upI 0 os.length).map fun i => ns.getD (os.idxOf i) 0
def sp__law_allocation (K : PySem.W.Frag) : Sp := spS K fun ds k P => ∃ v b : Int, ds = [.int v, .int b] ∧ 1 ≤ v ∧ v ≤ 1000 ∧ 0 ≤ b ∧ b ≤ 1000 ∧ k = .v ∧ P = fun d => ∃ ns : List Int, d = .tuple (ns.map .int) ∧ Alc ns v b
/-! orders: every number has its place -/
theorem nodup_inj {ns : List Int} (h : ns.Nodup) {i j : Nat} (hi : i < ns.length) (hj : j < ns.length) (e : ns[i] = ns[j]) : i = j := by
  have p := List.pairwise_iff_getElem.mp h
  rcases Nat.lt_trichotomy i j with q | q | q
  · exact absurd e (p i j hi hj q)
  · exact q
  · exact absurd e.symm (p j i hj hi q)
theorem perm_sum {as bs : List Int} (h : as.Perm bs) : as.sum = bs.sum := by
  induction h with
  | nil => rfl
  | cons x _ ih => simp [ih]
  | swap x y l => simp only [List.sum_cons]; omega
  | trans _ _ ih1 ih2 => exact ih1.trans ih2
theorem mem_upI {n : Nat} {i : Int} : i ∈ upI 0 n ↔ 0 ≤ i ∧ i < n := by
  unfold upI
  rw [List.mem_map]
  constructor
  · rintro ⟨m, hm, rfl⟩
    have := List.mem_range.mp hm
    omega
  · rintro ⟨h0, h1⟩
    exact ⟨i.toNat, List.mem_range.mpr (by omega), by omega⟩
theorem nodup_upI (n : Nat) : (upI 0 n).Nodup := by
  rw [upI0]
  exact List.Pairwise.map _ (fun a b h e => h (Int.ofNat.inj e)) List.nodup_range
theorem IsOrd.mem {ns : List Int} {m : Int} (h : IsOrd ns m) {i : Int} (h0 : 0 ≤ i) (h1 : i < m) : i ∈ ns := by
  refine Decidable.byContradiction fun hn => ?_
  have h2 : (i :: ns).length ≤ (upI 0 ns.length).length := length_sub (List.nodup_cons.mpr ⟨hn, h.nd⟩) fun k hk => by
    have hl := h.len
    rcases List.mem_cons.mp hk with q | q
    · rw [q, mem_upI]; omega
    · rw [mem_upI]; have := h.rng k q; omega
  simp [upI] at h2
  omega
theorem IsOrd.perm {ns : List Int} {m : Int} (h : IsOrd ns m) : (upI 0 ns.length).Perm ns := by
  refine (List.perm_iff_count.mpr fun i => ?_)
  by_cases q : 0 ≤ i ∧ i < (ns.length : Int)
  · rw [upI_count q.1 q.2, h.nd.count]
    rw [if_pos (h.mem q.1 (by have := h.len; omega))]
  · rw [List.count_eq_zero_of_not_mem (fun z => q (mem_upI.mp z)), List.count_eq_zero_of_not_mem (fun z => q (by have := h.rng i z; have := h.len; omega))]
theorem IsOrd.idx {ns : List Int} {m : Int} (h : IsOrd ns m) {i : Int} (h0 : 0 ≤ i) (h1 : i < m) : ∃ hj : ns.idxOf i < ns.length, ns[ns.idxOf i]? = some i ∧ ∀ n, n < ns.idxOf i → ns[n]? ≠ some i := by
  have hj : ns.idxOf i < ns.length := List.idxOf_lt_length_of_mem (h.mem h0 h1)
  refine ⟨hj, ?_, fun n hn e => ?_⟩
  · rw [List.getElem?_eq_getElem hj, List.getElem_idxOf hj]
  · have hl : n < ns.length := by omega
    have e1 : ns[n] = i := by rw [List.getElem?_eq_getElem hl] at e; exact Option.some.inj e
    have e2 : ns[ns.idxOf i] = i := List.getElem_idxOf hj
    have := nodup_inj h.nd hl hj (e1.trans e2.symm)
    omega
theorem IsOrd.idxOf_get {ns : List Int} {m : Int} (h : IsOrd ns m) {j : Nat} (hj : j < ns.length) : ns.idxOf ns[j] = j := by
  have hm : ns[j] ∈ ns := List.getElem_mem hj
  have hl : ns.idxOf ns[j] < ns.length := List.idxOf_lt_length_of_mem hm
  exact nodup_inj h.nd hl hj (List.getElem_idxOf hl)
/-- a sum over the placed is the sum over the old -/
theorem IsOrd.sums {os : List Int} {m : Int} (h : IsOrd os m) (f : Nat → Int) : ((upI 0 os.length).map fun i => f (os.idxOf i)).sum = ((List.range os.length).map f).sum := by
  have e : os.map (fun i => f (os.idxOf i)) = (List.range os.length).map f := by
    apply List.ext_getElem
    · simp
    · intro j h1 h2
      simp only [List.getElem_map, List.getElem_range]
      rw [h.idxOf_get (by simpa using h1)]
  rw [← e]
  exact perm_sum (h.perm.map _)
theorem sum_range {ns : List Int} : ((List.range ns.length).map fun j => ns.getD j 0).sum = ns.sum := by
  congr 1
  apply List.ext_getElem
  · simp
  · intro j h1 h2
    have h2' : j < ns.length := h2
    simp [List.getD_eq_getElem?_getD, List.getElem?_eq_getElem h2']
theorem IsOrd.alc {ns os : List Int} {v b : Int} (h : Alc ns v b) (o : IsOrd os v) : Alc (placedI ns os) v b := by
  have hl : os.length = ns.length := by have := h.len; have := o.len; omega
  refine ⟨?_, ?_, ?_⟩
  · simp [placedI, upI, o.len]
  · unfold placedI
    rw [o.sums fun j => ns.getD j 0, hl, sum_range, h.sum]
  · intro n hn
    obtain ⟨i, _, rfl⟩ := List.mem_map.mp hn
    rw [List.getD_eq_getElem?_getD]
    cases q : ns[os.idxOf i]? with
    | none => exact Int.le_refl _
    | some x => exact h.nn x (List.mem_of_getElem? q)
def t0 (a b : Int) : Int := if 0 > a - b then 0 else a - b
theorem trI_range {ns ms : List Int} (h : ns.length = ms.length) : trI ns ms = ((List.range ns.length).map fun j => t0 (ns.getD j 0) (ms.getD j 0)).sum := by
  unfold trI
  congr 1
  apply List.ext_getElem
  · simp [h]
  · intro j h1 h2
    have h3 : j < ns.length := by simpa using h2
    have h4 : j < ms.length := by omega
    simp [t0, List.getD_eq_getElem?_getD, List.getElem?_eq_getElem h3, List.getElem?_eq_getElem h4]
end Lm


namespace Lm
open PySem PySem.Spec PyProof.Rows L2
section
variable {c : Ct} {H H' H0 H1 H2 H3 : Hp} {O : List Addr} {σ : L2.St} {Γ Γ' Γ1 : List (Option Rs)} {te : TE} {k : Kd} {i : Int}
theorem rgV_upI (i : Int) : rgV 0 i = (upI 0 i.toNat).map V.int := by
  unfold rgV upI
  rw [List.map_map, Int.sub_zero]
  rfl
end
section
variable {c : Ct} {Γ : List (Option Rs)} {ta tb : TE} {ka kb : Kd}
end
end Lm


/-! allocations: how they are made, what goes over -/
namespace Lm
open PySem PySem.Spec PyProof.Rows L2
theorem alc0 {v : Int} (h : 0 ≤ v) : Alc ((upI 0 v.toNat).map fun _ => 0) v (0 : Nat) := by
  refine ⟨by simp [upI]; omega, ?_, fun n hn => ?_⟩
  · generalize upI 0 v.toNat = l
    induction l with
    | nil => rfl
    | cons a l ih => rw [List.map_cons, List.sum_cons, ih]; rfl
  · obtain ⟨_, _, rfl⟩ := List.mem_map.mp hn
    exact Int.le_refl _
theorem sum_set : ∀ {ns : List Int} {m : Nat} {x : Int}, m < ns.length → (ns.set m x).sum = ns.sum - ns.getD m 0 + x
  | [], _, _, h => by simp at h
  | n :: ns, 0, x, _ => by
    show x + ns.sum = (n + ns.sum) - n + x
    omega
  | n :: ns, m + 1, x, h => by
    have := sum_set (ns := ns) (m := m) (x := x) (by simpa using h)
    show n + (ns.set m x).sum = (n + ns.sum) - ns.getD m 0 + x
    omega
theorem Alc.one {ns : List Int} {v : Int} {b m : Nat} (h : Alc ns v b) (hm : m < ns.length) : Alc (ns.set m (ns.getD m 0 + 1)) v ((b + 1 : Nat) : Int) := by
  refine ⟨by rw [List.length_set]; exact h.len, ?_, fun n hn => ?_⟩
  · have := h.sum
    rw [sum_set hm]
    omega
  · rcases List.mem_or_eq_of_mem_set hn with q | q
    · exact h.nn n q
    · have : ns.getD m 0 ∈ ns := by
        rw [List.getD_eq_getElem?_getD, List.getElem?_eq_getElem hm]
        exact List.getElem_mem hm
      have := h.nn _ this
      omega
theorem ord_upI {m : Int} (h : 0 ≤ m) : IsOrd (upI 0 m.toNat) m := by
  refine ⟨by simp [upI]; omega, nodup_upI _, fun n hn => ?_⟩
  have := mem_upI.mp hn
  omega
/-! ### sums over two lists at once -/
def zs (f : Int → Int → Int) (ns ms : List Int) : Int := ((List.range ns.length).map fun j => f (ns.getD j 0) (ms.getD j 0)).sum
theorem zs_cons {f : Int → Int → Int} {n m : Int} {ns ms : List Int} : zs f (n :: ns) (m :: ms) = f n m + zs f ns ms := by
  unfold zs
  rw [List.length_cons, List.range_succ_eq_map, List.map_cons, List.sum_cons, List.map_map]
  rfl
theorem trI_zs {ns ms : List Int} (h : ns.length = ms.length) : trI ns ms = zs t0 ns ms := trI_range h
theorem zs_sub : ∀ {ns ms : List Int}, ns.length = ms.length → zs t0 ns ms - zs t0 ms ns = ns.sum - ms.sum
  | [], [], _ => rfl
  | n :: ns, m :: ms, h => by
    have := zs_sub (ns := ns) (ms := ms) (by simpa using h)
    rw [zs_cons, zs_cons, List.sum_cons, List.sum_cons]
    have : t0 n m - t0 m n = n - m := by unfold t0; split <;> split <;> omega
    omega
  | [], _ :: _, h => by simp at h
  | _ :: _, [], h => by simp at h
variable {ns ms ps : List Int} {v b : Int}
theorem Alc.lens (h : Alc ns v b) (g : Alc ms v b) : ns.length = ms.length := by have := h.len; have := g.len; omega
theorem trI_up (h : ns.length = ms.length) : trI ns ms = ((upI 0 ns.length).map fun i => t0 (ns.getD i.toNat 0) (ms.getD i.toNat 0)).sum := by
  rw [trI_zs h, upI0, List.map_map]
  rfl
def sp__law_transfer (K : PySem.W.Frag) : Sp := spD K fun ds k d => ∃ (ns ms : List Int), ds = [.tuple (ns.map .int), .tuple (ms.map .int)] ∧ ns.length = ms.length ∧ ns.length ≤ 1000 ∧ k = .v ∧ d = .int (trI ns ms)
/-- a list that is filled place by place -/
structure Due (ns os due : List Int) (v : Int) (n : Nat) : Prop where
  len : (due.length : Int) = v
  got : ∀ j, j < n → due.getD (os.getD j 0).toNat 0 = ns.getD j 0
theorem gd_lt {l : List Int} {j : Nat} (h : j < l.length) : l.getD j 0 = l[j] := by
  rw [List.getD_eq_getElem?_getD, List.getElem?_eq_getElem h]
  rfl
theorem gd_mem {l : List Int} {j : Nat} (h : j < l.length) : l.getD j 0 ∈ l := by rw [gd_lt h]; exact List.getElem_mem h
variable {os due : List Int} {n : Nat}
theorem Due.step (d : Due ns os due v n) (ho : IsOrd os v) (hn : n < os.length) : Due ns os (due.set (os.getD n 0).toNat (ns.getD n 0)) v (n + 1) := by
  refine ⟨by rw [List.length_set]; exact d.len, fun j hj => ?_⟩
  have hl := d.len
  have r1 := ho.rng _ (gd_mem hn)
  have h1 : (os.getD n 0).toNat < due.length := by omega
  by_cases q : j = n
  · subst q
    rw [List.getD_eq_getElem?_getD, List.getElem?_set_self h1]
    rfl
  · have hj' : j < n := by omega
    have hjl : j < os.length := by omega
    have r2 := ho.rng _ (gd_mem hjl)
    have ne : (os.getD n 0).toNat ≠ (os.getD j 0).toNat := fun e => by
      have e2 : os.getD j 0 = os.getD n 0 := by omega
      rw [gd_lt hn, gd_lt hjl] at e2
      exact q (nodup_inj ho.nd hjl hn e2)
    rw [List.getD_eq_getElem?_getD, List.getElem?_set_ne ne, ← List.getD_eq_getElem?_getD]
    exact d.got j hj'
theorem Due.done (d : Due ns os due v os.length) (ho : IsOrd os v) : due = placedI ns os := by
  have hl := d.len
  have hol := ho.len
  apply List.ext_getElem
  · simp [placedI, upI]; omega
  · intro i h1 h2
    obtain ⟨hj, h3, _⟩ := ho.idx (i := (i : Int)) (by omega) (by omega)
    have := d.got _ hj
    have e1 : os.getD (os.idxOf (i : Int)) 0 = i := by rw [List.getD_eq_getElem?_getD, h3]; rfl
    rw [e1] at this
    have e2 : ((i : Int)).toNat = i := by omega
    rw [e2, gd_lt h1] at this
    rw [this]
    unfold placedI
    simp [upI]
theorem upI_at {n m : Nat} {a : Im} (h : ((upI 0 n).map fun i => Im.d (.int i))[m]? = some a) : m < n ∧ a = .d (.int (m : Int)) := by
  unfold upI at h
  rw [List.map_map, List.getElem?_map] at h
  cases q : (List.range n)[m]? with
  | none => rw [q] at h; cases h
  | some j =>
    rw [q] at h
    have hm : m < n := by have := (List.getElem?_eq_some_iff.mp q).1; simpa using this
    have hj : j = m := by rw [List.getElem?_range hm] at q; exact (Option.some.inj q).symm
    subst hj
    refine ⟨hm, (Option.some.inj h).symm.trans ?_⟩
    show Im.d (.int (0 + (j : Int))) = _
    rw [Int.zero_add]
theorem ixN_at {n m : Nat} {i : Int} (hi : i = (m : Int)) (h : m < n) : ixN n i = some m := by
  rw [hi]
  exact Evl.ixN_nat h
theorem at_ints {ns : List Int} {j : Nat} (h : j < ns.length) : atI (ns.map PyData.int) (j : Int) = some (.int (ns.getD j 0)) := atI_nat (by simp [h])
/-- xs[i] = an int, xs a list of ints -/
theorem s_setII {c : Ct} {Γ : List (Option Rs)} {te ta : TE} {k ka : Kd} {P : Out → Prop} {n m : Nat} {x i : Int} {ns : List Int} (hx : Γ[n]? = some (some (.o (.list (ns.map .int))))) (h : Ev c te Γ k (.int x)) (hi : Ev c ta Γ ka (.int i)) (hj : i = (m : Int)) (hm : m < ns.length) (p : P (.nx (Γ.set n (some (.o (.list ((ns.set m x).map .int))))))) : Sd c (tAsg te (gSub (tVar n) ta rSetL)) Γ P :=
  s_setI hx (flatAll_ints _) h rfl hi (ixN_at hj (by simpa using hm)) (by rw [List.map_set] at p; exact p)
theorem q_setII {c : Ct} {Γ : List (Option Rs)} {te ta : TE} {u : TS} {k ka : Kd} {P : Out → Prop} {n m : Nat} {x i : Int} {ns : List Int} (hx : Γ[n]? = some (some (.o (.list (ns.map .int))))) (h : Ev c te Γ k (.int x)) (hi : Ev c ta Γ ka (.int i)) (hj : i = (m : Int)) (hm : m < ns.length) (p : Sd c u (Γ.set n (some (.o (.list ((ns.set m x).map .int))))) P) : Sd c (tSeq (tAsg te (gSub (tVar n) ta rSetL)) u) Γ P :=
  s_seq1 (s_setII hx h hi hj hm rfl) p
end Lm


/-! zip whose tuples are kept; enumerate(zip(a, b)) -/
namespace Lm
open PySem PySem.Spec PyProof.Rows L2
/-- a zip, with what it says of its last tuple -/
abbrev IsZipX (h : Heap) (z TI TO : Addr) (x : Value) (b : Bool) : Prop := h.get? z = some { cls := .type "zip", data := .fields #[x, .bool b, .bool false, .ref TI, .ref TO] }
section
variable {prog : Program} {w : World} {A : Around} {E : Value → Shared → Prop} {s : Shared} {z TI TO i1 i2 : Addr} {fp1 fp2 : List Addr} {n1 n2 i : Nat} {P1 P2 : Nat → Value → Prop} {St1 St2 : Nat → Heap → Prop} {a1 a2 : Value} {b : Bool} {x : Value}
theorem zipX_free {Q : Bool → Shared → Prop} (hz : IsZipX s.heap z TI TO x b) (hx : x = .none ∨ ∃ T : Addr, x = rawInt T) (h1 : Q true s) (h2 : ∀ h', IsZipX h' z TI TO x true → Heap.SameBut z s.heap h' → Q false { s with heap := h' }) :
    wpAny (model prog w) A (Builtin.SmallTypes.ownedTupleIsFree (.ref z)) Q E s := by
  unfold Builtin.SmallTypes.ownedTupleIsFree
  refine wpAny_bind (wpAny_field hz rfl (x := x) rfl ?_)
  rcases hx with rfl | ⟨T, rfl⟩
  · exact wpAny_pure h1
  · show wpAny _ _ (loadIfAlive T >>= _) _ _ _
    cases hT : s.heap.get? T with
    | none =>
      have alive : ∀ {Q : Option Obj → Shared → Prop}, Q none s → wpAny (model prog w) A (loadIfAlive T) Q E s := fun {Q} q => by
        have q' : Q (s.heap.get? T) s := by rw [hT]; exact q
        exact fun _ _ _ => q'
      refine wpAny_bind (alive ?_)
      exact wpAny_pure h1
    | some o =>
      refine wpAny_bind (PySem.W.kdx_alive hT ?_)
      simp only [Option.isNone_some, Bool.false_eq_true, if_false]
      refine wpAny_bind (wpAny_field hz rfl (x := .bool b) rfl ?_)
      cases b with
      | true => exact wpAny_pure (h2 _ hz (Heap.SameBut.refl ..))
      | false => exact wpAny_bind (wpAny_setField_rec hz (by simp) fun h1 hz1 hs1 => wpAny_pure (h2 h1 hz1 hs1))
/-- a turn of zip, whatever became of the last tuple -/
theorem zipX_item {Q : Value → Shared → Prop} (S : ZipSep2 z TI TO i1 i2 fp1 fp2) (D1 : Draws prog w A i1 fp1 n1 P1 St1) (D2 : Draws prog w A i2 fp2 n2 P2 St2)
    (hz : IsZipX s.heap z TI TO x b) (hx : x = .none ∨ ∃ T : Addr, x = rawInt T) (hTI : IsTupOf2 s.heap TI (.ref i1) (.ref i2)) (hTO : IsTupOf2 s.heap TO a1 a2) (st1 : St1 i s.heap) (st2 : St2 i s.heap) (hlt1 : i < n1) (hlt2 : i < n2)
    (hQ : ∀ x1 x2 h' tk x' b', P1 i x1 → P2 i x2 → IsZipX h' z TI TO x' b' → (x' = .none ∨ ∃ T : Addr, x' = rawInt T) → (∃ a1 a2, IsTupOf2 h' TO a1 a2) → St1 (i + 1) h' → St2 (i + 1) h' → IsTupOf2 h' s.heap.objs.size x1 x2 → h'.objs.size = s.heap.objs.size + 1 →
      (∀ c o, c ≠ z → c ≠ TO → c ≠ i1 → c ≠ i2 → s.heap.get? c = some o → h'.get? c = some o) → Q (.ref s.heap.objs.size) { s with heap := h', toks := tk }) :
    wpAny (model prog w) A (Builtin.«zip.__next__» ⟨[.ref z], []⟩) (fun fin s' => ∃ v, fin = .done (.ret v) ∧ Q v s') E s := by
  obtain ⟨hp, g, d, tk0, os⟩ := s
  show wpAny _ _ (field (.ref z) 2 >>= _) _ _ _
  refine wpAny_bind (wpAny_field hz rfl (x := .bool false) rfl ?_)
  show wpAny _ _ (field (.ref z) 3 >>= _) _ _ _
  refine wpAny_bind (wpAny_field hz rfl (x := .ref TI) rfl ?_)
  refine wpAny_bind (wpAny_seqItems hTI rfl ?_)
  show wpAny _ _ (Builtin.SmallTypes.ownedTupleIsFree (.ref z) >>= _) _ _ _
  refine wpAny_bind (zipX_free hz hx ?_ fun g0 hz0 hs0 => ?_)
  · simp only [if_true]
    refine wpAny_bind (wpAny_rule (wpAny_bind (wpAny_field hz rfl (x := .ref TO) rfl ?_)))
    refine wpAny_bind (wpAny_setField_rec hz (by simp) fun g0 hz0 hs0 => ?_)
    replace hz0 : IsZipX g0 z TI TO .ellipsis b := hz0
    replace hs0 : Heap.SameBut z hp g0 := hs0
    refine wpAny_bind ?_
    simp only [List.zipIdx_cons, List.zipIdx_nil, List.forIn_cons, List.forIn_nil]
    refine wpAny_bind (wpAny_bind (wpAny_onRaise ?_))
    show wpAny _ _ (Builtin.SmallTypes.nextOf (.ref i1) >>= _) _ _ ⟨g0, g, d, tk0, os⟩
    refine wpAny_bind (D1.item i _ _ _ hlt1 (D1.over st1 hs0 S.zf1) fun x1 p1 tk1 hx1 sn1 hp1 => wpAny_pure ?_)
    replace hp1 : Heap.SameBut i1 g0 p1 := hp1
    have hU1 : IsTupOf2 p1 TO a1 a2 := hp1.extBut _ _ S.Ti1 (hs0.extBut _ _ S.TOz hTO)
    refine wpAny_bind (wpAny_seqItems (s := ⟨p1, g, d, tk1, os⟩) hU1 rfl ?_)
    refine wpAny_bind (updateSeq_IsTupOf2 (s := ⟨p1, g, d, tk1, os⟩) hU1 fun g1 hT1 hs1 => ?_)
    replace hT1 : IsTupOf2 g1 TO x1 a2 := hT1
    replace hs1 : Heap.SameBut TO p1 g1 := hs1
    refine wpAny_bind (wpAny_letGo (wpAny_pure ?_))
    refine wpAny_bind (wpAny_bind (wpAny_onRaise ?_))
    show wpAny _ _ (Builtin.SmallTypes.nextOf (.ref i2) >>= _) _ _ ⟨g1, g, d, tk1, os⟩
    refine wpAny_bind (D2.item i _ _ _ hlt2 (D2.over (D2.over (D2.over st2 hs0 S.zf2) hp1 S.sep1_2) hs1 S.Tf2) fun x2 p2 tk2 hx2 sn2 hp2 => wpAny_pure ?_)
    replace hp2 : Heap.SameBut i2 g1 p2 := hp2
    have hU2 : IsTupOf2 p2 TO x1 a2 := hp2.extBut _ _ S.Ti2 hT1
    refine wpAny_bind (wpAny_seqItems (s := ⟨p2, g, d, tk2, os⟩) hU2 rfl ?_)
    refine wpAny_bind (updateSeq_IsTupOf2 (s := ⟨p2, g, d, tk2, os⟩) hU2 fun g2 hT2 hs2 => ?_)
    replace hT2 : IsTupOf2 g2 TO x1 x2 := hT2
    replace hs2 : Heap.SameBut TO p2 g2 := hs2
    refine wpAny_bind (wpAny_letGo (wpAny_pure (wpAny_pure ?_)))
    refine wpAny_bind (wpAny_seqItems (s := ⟨g2, g, d, tk2, os⟩) hT2 rfl (wpAny_bind (wpAny_newTuple ?_)))
    have hsz : g2.objs.size = hp.objs.size := by rw [hs2.1, hp2.1, hs1.1, hp1.1, hs0.1]
    have hzz : IsZipX g2 z TI TO .ellipsis b := (hs2.extBut _ _ S.TOz.symm (hp2.extBut _ _ S.zi2 (hs1.extBut _ _ S.TOz.symm (hp1.extBut _ _ S.zi1 hz0))))
    have hkk : ∀ c o, c ≠ z → c ≠ TO → c ≠ i1 → c ≠ i2 → hp.get? c = some o → g2.get? c = some o := fun c o cz cT c1 c2 e =>
      hs2.extBut _ _ cT (hp2.extBut _ _ c2 (hs1.extBut _ _ cT (hp1.extBut _ _ c1 (hs0.extBut _ _ cz e))))
    have hj1 : St1 (i + 1) g2 := D1.over (D1.over (D1.over sn1 hs1 S.Tf1) hp2 S.sep2_1) hs2 S.Tf1
    have hj2 : St2 (i + 1) g2 := D2.over sn2 hs2 S.Tf2
    have hzlt : z < g2.objs.size := Heap.lt_size hzz
    show wpAny _ _ (Builtin.SmallTypes.ownedTupleHandOut (.ref z) (.ref g2.objs.size) >>= _) _ _ ⟨g2.push { cls := .type "tuple", data := .seq #[x1, x2] }, g, d, tk2, os⟩
    refine wpAny_bind ?_
    unfold Builtin.SmallTypes.ownedTupleHandOut
    have hz6 : IsZipX (g2.push { cls := .type "tuple", data := .seq #[x1, x2] }) z TI TO .ellipsis b := Heap.get?_push_of_some _ hzz
    refine wpAny_bind (wpAny_setField_rec hz6 (by simp) fun h7 hz7 hs7 => ?_)
    replace hz7 : IsZipX h7 z TI TO (rawInt g2.objs.size) b := hz7
    refine wpAny_setField_rec hz7 (by simp) fun h8 hz8 hs8 => ?_
    replace hz8 : IsZipX h8 z TI TO (rawInt g2.objs.size) false := hz8
    replace hs7 : Heap.SameBut z (g2.push { cls := .type "tuple", data := .seq #[x1, x2] }) h7 := hs7
    replace hs8 : Heap.SameBut z h7 h8 := hs8
    have up : ∀ c o, c ≠ z → g2.get? c = some o → h8.get? c = some o := fun c o c1 e => hs8.extBut _ _ c1 (hs7.extBut _ _ c1 (Heap.get?_push_of_some _ e))
    have hT8 : IsTupOf2 h8 g2.objs.size x1 x2 := hs8.extBut _ _ (Nat.ne_of_gt hzlt) (hs7.extBut _ _ (Nat.ne_of_gt hzlt) (Heap.get?_push_size _ rfl))
    have hz9 : h8.objs.size = g2.objs.size + 1 := by rw [hs8.1, hs7.1, Heap.size_push]
    rw [hsz] at hz8 hT8 hz9
    refine wpAny_pure ⟨_, rfl, ?_⟩
    show Q (.ref g2.objs.size) ⟨h8, g, d, tk2, os⟩
    rw [hsz]
    exact hQ x1 x2 h8 tk2 _ _ hx1 hx2 hz8 (.inr ⟨_, rfl⟩) ⟨_, _, up _ _ S.TOz hT2⟩ (D1.frame _ _ _ hj1 fun b hb o e => up b o (fun q => S.zf1 (q ▸ hb)) e) (D2.frame _ _ _ hj2 fun b hb o e => up b o (fun q => S.zf2 (q ▸ hb)) e) hT8 hz9 fun c o cz cT c1 c2 e => up c o cz (hkk c o cz cT c1 c2 e)
  · replace hs0 : Heap.SameBut z hp g0 := hs0
    simp only [Bool.false_eq_true, if_false]
    refine wpAny_bind ?_
    rw [← Array.forIn_toList]
    simp only [List.forIn_cons, List.forIn_nil]
    refine wpAny_bind (wpAny_bind (wpAny_holding ?_))
    show wpAny _ _ (Builtin.SmallTypes.nextOf (.ref i1) >>= _) _ _ ⟨g0, g, d, tk0, os⟩
    refine wpAny_bind (D1.item i _ _ _ hlt1 (D1.over st1 hs0 S.zf1) fun x1 p1 tk1 hx1 sn1 hp1 => wpAny_pure ?_)
    replace hp1 : Heap.SameBut i1 g0 p1 := hp1
    refine wpAny_pure ?_
    refine wpAny_bind (wpAny_bind (wpAny_holding ?_))
    show wpAny _ _ (Builtin.SmallTypes.nextOf (.ref i2) >>= _) _ _ ⟨p1, g, d, tk1, os⟩
    refine wpAny_bind (D2.item i _ _ _ hlt2 (D2.over (D2.over st2 hs0 S.zf2) hp1 S.sep1_2) fun x2 p2 tk2 hx2 sn2 hp2 => wpAny_pure ?_)
    replace hp2 : Heap.SameBut i2 p1 p2 := hp2
    refine wpAny_pure (wpAny_pure ?_)
    show wpAny _ _ (newTuple [x1, x2] >>= _) _ _ ⟨p2, g, d, tk2, os⟩
    refine wpAny_bind (wpAny_newTuple ?_)
    have hsz : p2.objs.size = hp.objs.size := by rw [hp2.1, hp1.1, hs0.1]
    have hzz : IsZipX p2 z TI TO x true := hp2.extBut _ _ S.zi2 (hp1.extBut _ _ S.zi1 hz0)
    have hj1 : St1 (i + 1) p2 := D1.over sn1 hp2 S.sep2_1
    have hTO2 : IsTupOf2 p2 TO a1 a2 := hp2.extBut _ _ S.Ti2 (hp1.extBut _ _ S.Ti1 (hs0.extBut _ _ S.TOz hTO))
    refine wpAny_pure ⟨_, rfl, ?_⟩
    show Q (.ref p2.objs.size) _
    rw [hsz]
    refine hQ x1 x2 (p2.push { cls := .type "tuple", data := .seq #[x1, x2] }) tk2 _ _ hx1 hx2 (Heap.get?_push_of_some _ hzz) hx ⟨_, _, Heap.get?_push_of_some _ hTO2⟩ (D1.frame _ _ _ hj1 fun b hb o e => Heap.get?_push_of_some _ e) (D2.frame _ _ _ sn2 fun b hb o e => Heap.get?_push_of_some _ e) ?_ (by rw [Heap.size_push, hsz]) fun c o cz cT c1 c2 e => Heap.get?_push_of_some _ (hp2.extBut _ _ c2 (hp1.extBut _ _ c1 (hs0.extBut _ _ cz e)))
    rw [← hsz]
    exact Heap.get?_push_size _ rfl
/-- zip at its end: the first iterator has ended -/
theorem zipX_end {Q : Fin → Shared → Prop} (S : ZipSep2 z TI TO i1 i2 fp1 fp2) (D1 : Draws prog w A i1 fp1 n1 P1 St1)
    (hz : IsZipX s.heap z TI TO x b) (hx : x = .none ∨ ∃ T : Addr, x = rawInt T) (hTI : IsTupOf2 s.heap TI (.ref i1) (.ref i2)) (st1 : St1 n1 s.heap)
    (hE : ∀ h' e, (∀ c o, c ≠ z → c ≠ i1 → s.heap.get? c = some o → h'.get? c = some o) → (∃ o, h'.get? e = some o ∧ o.cls = .type "StopIteration") → E (.ref e) { s with heap := h' }) :
    wpAny (model prog w) A (Builtin.«zip.__next__» ⟨[.ref z], []⟩) Q E s := by
  obtain ⟨hp, g, d, tk0, os⟩ := s
  show wpAny _ _ (field (.ref z) 2 >>= _) _ _ _
  refine wpAny_bind (wpAny_field hz rfl (x := .bool false) rfl ?_)
  show wpAny _ _ (field (.ref z) 3 >>= _) _ _ _
  refine wpAny_bind (wpAny_field hz rfl (x := .ref TI) rfl ?_)
  refine wpAny_bind (wpAny_seqItems hTI rfl ?_)
  show wpAny _ _ (Builtin.SmallTypes.ownedTupleIsFree (.ref z) >>= _) _ _ _
  refine wpAny_bind (zipX_free hz hx ?_ fun g0 hz0 hs0 => ?_)
  · simp only [if_true]
    refine wpAny_bind (wpAny_rule (wpAny_bind (wpAny_field hz rfl (x := .ref TO) rfl ?_)))
    refine wpAny_bind (wpAny_setField_rec hz (by simp) fun g0 hz0 hs0 => ?_)
    replace hz0 : IsZipX g0 z TI TO .ellipsis b := hz0
    replace hs0 : Heap.SameBut z hp g0 := hs0
    refine wpAny_bind ?_
    simp only [List.zipIdx_cons, List.zipIdx_nil, List.forIn_cons, List.forIn_nil]
    refine wpAny_bind (wpAny_bind (wpAny_onRaise ?_))
    show wpAny _ _ (Builtin.SmallTypes.nextOf (.ref i1) >>= _) _ _ ⟨g0, g, d, tk0, os⟩
    refine wpAny_bind (D1.done ⟨g0, g, d, tk0, os⟩ _ _ (D1.over st1 hs0 S.zf1) fun q e hq he => ?_)
    replace hq : Heap.ExtBut i1 g0 q := hq
    obtain ⟨oe, hoe, hce⟩ := he
    replace hoe : q.get? e = some oe := hoe
    have hzq : IsZipX q z TI TO .ellipsis b := hq _ _ S.zi1 hz0
    have hez : e ≠ z := fun y => by subst y; rw [hzq] at hoe; cases hoe; simp at hce
    refine wpAny_setField_rec (s := ⟨q, g, d, tk0, os⟩) hzq (by simp) fun q' _ hq' => ?_
    replace hq' : Heap.SameBut z q q' := hq'
    exact hE q' e (fun c o cz c1 y => hq'.extBut _ _ cz (hq _ _ c1 (hs0.extBut _ _ cz y))) ⟨oe, hq'.extBut _ _ hez hoe, hce⟩
  · replace hs0 : Heap.SameBut z hp g0 := hs0
    simp only [Bool.false_eq_true, if_false]
    refine wpAny_bind ?_
    rw [← Array.forIn_toList]
    simp only [List.forIn_cons, List.forIn_nil]
    refine wpAny_bind (wpAny_bind (wpAny_holding ?_))
    show wpAny _ _ (Builtin.SmallTypes.nextOf (.ref i1) >>= _) _ _ ⟨g0, g, d, tk0, os⟩
    refine wpAny_bind (D1.done ⟨g0, g, d, tk0, os⟩ _ _ (D1.over st1 hs0 S.zf1) fun q e hq he => ?_)
    replace hq : Heap.ExtBut i1 g0 q := hq
    exact hE q e (fun c o cz c1 y => hq _ _ c1 (hs0.extBut _ _ cz y)) he
end
section
variable {prog : Program} {w : World} {A : Around} {E : Value → Shared → Prop} {s : Shared}
end
section
variable {c : Ct} {Γ : List (Option Rs)} {tr : TA}
end
section
variable {X : Cx} {K : PySem.W.Frag} (hK : X.K = K)
include hK
end
end Lm


/-! pairs of assignments, moves, renaming and rearranging -/
namespace Lm
open PySem PySem.Spec PyProof.Rows L2
def ne1 (a b : Int) : Int := if a = b then 0 else 1
def backI (os : List Int) : List Int := (upI 0 os.length).map fun i => (os.idxOf i : Int)
variable {ns ms os : List Int} {v m b : Int}
theorem backI_len : (backI os).length = os.length := by simp [backI, upI]
theorem IsOrd.back (o : IsOrd os m) : IsOrd (backI os) m := by
  have hl := o.len
  refine ⟨by rw [backI_len]; exact hl, ?_, fun n hn => ?_⟩
  · unfold backI
    rw [List.nodup_iff_pairwise_ne, List.pairwise_map]
    refine List.Pairwise.imp_of_mem ?_ (List.nodup_iff_pairwise_ne.mp (nodup_upI os.length))
    intro a c ha hc hne e
    have a1 := mem_upI.mp ha
    have c1 := mem_upI.mp hc
    obtain ⟨_, ga, _⟩ := o.idx (i := a) a1.1 (by omega)
    obtain ⟨_, gc, _⟩ := o.idx (i := c) c1.1 (by omega)
    have e' : os.idxOf a = os.idxOf c := by omega
    rw [e', gc] at ga
    exact hne (Option.some.inj ga).symm
  · obtain ⟨i, hi, rfl⟩ := List.mem_map.mp hn
    have a1 := mem_upI.mp hi
    obtain ⟨hj, _, _⟩ := o.idx (i := i) a1.1 (by omega)
    omega
theorem countsI_len : (countsI ns v).length = v.toNat := by simp [countsI, upI]
theorem countsI_get {i : Nat} (h : (i : Int) < v) : (countsI ns v).getD i 0 = (ns.count (i : Int) : Int) := by
  unfold countsI
  rw [List.getD_eq_getElem?_getD]
  have : i < v.toNat := by omega
  simp [upI, this]
theorem Asg.alc (h : Asg ns v) (hv : 0 ≤ v) : Alc (countsI ns v) v ns.length := by
  refine ⟨by rw [countsI_len]; omega, ?_, fun n hn => ?_⟩
  · exact count_sum v.toNat ns fun n hn => by have := h.rng n hn; omega
  · obtain ⟨i, _, rfl⟩ := List.mem_map.mp hn
    omega
theorem e_neg {c : Ct} {Γ : List (Option Rs)} {te : TE} {k : Kd} {i : Int} (h : Ev c te Γ k (.int i)) : Ev c (tUn (rU fun i => .int (-i)) te) Γ .v (.int (-i)) := fun H0 O H σ e Q q =>
  h H0 O H σ e _ fun v H1 r s => ⟨i, (Res.bo e s).int', q _ H1 r (.int _)⟩
/-- a list of data that is filled place by place with ints -/
structure DueD (ns os : List Int) (due : List PyData) (v : Int) (n : Nat) : Prop where
  len : (due.length : Int) = v
  flat : ∀ d ∈ due, flatD d = true
  got : ∀ j, j < n → due[(os.getD j 0).toNat]? = some (.int (ns.getD j 0))
theorem DueD.fl {due : List PyData} {n : Nat} (d : DueD ns os due v n) : flatAll due = true := flatAll_mem d.flat
theorem DueD.step {due : List PyData} {n : Nat} (d : DueD ns os due v n) (ho : IsOrd os v) (hn : n < os.length) : DueD ns os (due.set (os.getD n 0).toNat (.int (ns.getD n 0))) v (n + 1) := by
  have hl := d.len
  have r1 := ho.rng _ (gd_mem hn)
  have h1 : (os.getD n 0).toNat < due.length := by omega
  refine ⟨by rw [List.length_set]; exact d.len, fun x hx => ?_, fun j hj => ?_⟩
  · rcases List.mem_or_eq_of_mem_set hx with q | q
    · exact d.flat x q
    · rw [q]; rfl
  by_cases q : j = n
  · subst q
    rw [List.getElem?_set_self h1]
  · have hj' : j < n := by omega
    have hjl : j < os.length := by omega
    have r2 := ho.rng _ (gd_mem hjl)
    have ne : (os.getD n 0).toNat ≠ (os.getD j 0).toNat := fun e => by
      have e2 : os.getD j 0 = os.getD n 0 := by omega
      rw [gd_lt hn, gd_lt hjl] at e2
      exact q (nodup_inj ho.nd hjl hn e2)
    rw [List.getElem?_set_ne ne]
    exact d.got j hj'
theorem DueD.done {due : List PyData} (d : DueD ns os due v os.length) (ho : IsOrd os v) : due = (placedI ns os).map .int := by
  have hl := d.len
  have hol := ho.len
  apply List.ext_getElem
  · simp [placedI, upI]; omega
  · intro i h1 h2
    obtain ⟨hj, h3, _⟩ := ho.idx (i := (i : Int)) (by omega) (by omega)
    have g := d.got _ hj
    have e1 : os.getD (os.idxOf (i : Int)) 0 = i := by rw [List.getD_eq_getElem?_getD, h3]; rfl
    rw [e1] at g
    have e2 : ((i : Int)).toNat = i := by omega
    rw [e2, List.getElem?_eq_getElem h1] at g
    rw [Option.some.inj g]
    unfold placedI
    simp [upI]
def tupI (ns : List Int) : Im := .d (.tuple (ns.map .int))
theorem at_lastI {α : Type} (l : List α) (x : α) : atI (l ++ [x]) (-1) = some x := by
  unfold atI ixN
  have h1 : ¬ (0 : Int) ≤ -1 := by omega
  have hl : ((l ++ [x]).length : Int) = l.length + 1 := by simp
  rw [if_neg h1, hl, if_pos (by omega)]
  have h2 : (-1 + ((l.length : Int) + 1)).toNat = l.length := by omega
  show (l ++ [x])[(-1 + ((l.length : Int) + 1)).toNat]? = some x
  rw [h2]
  simp
end Lm


/-! moves that are not needed -/
namespace Lm
open PySem PySem.Spec PyProof.Rows L2
/-! ### out and in -/
def outI (i : Int) : List (Int × Int) → Int
  | [] => 0
  | p :: r => (if p.1 = i ∧ p.2 ≠ i then 1 else 0) + outI i r
def innI (i : Int) : List (Int × Int) → Int
  | [] => 0
  | p :: r => (if p.2 = i ∧ p.1 ≠ i then 1 else 0) + innI i r
theorem out_nn (i : Int) : ∀ z, 0 ≤ outI i z
  | [] => Int.le_refl _
  | p :: r => by have := out_nn i r; unfold outI; split <;> omega
theorem inn_nn (i : Int) : ∀ z, 0 ≤ innI i z
  | [] => Int.le_refl _
  | p :: r => by have := inn_nn i r; unfold innI; split <;> omega
theorem count_diff (i : Int) : ∀ {ns ms : List Int}, ns.length = ms.length → (ns.count i : Int) - ms.count i = outI i (ns.zip ms) - innI i (ns.zip ms)
  | [], [], _ => rfl
  | a :: ns, b :: ms, h => by
    have ih := count_diff i (ns := ns) (ms := ms) (by simpa using h)
    rw [List.count_cons, List.count_cons, List.zip_cons_cons]
    unfold outI innI
    by_cases h1 : a = i <;> by_cases h2 : b = i <;> simp [h1, h2] <;> omega
  | [], _ :: _, h => by simp at h
  | _ :: _, [], h => by simp at h
def neZ : List (Int × Int) → Int
  | [] => 0
  | p :: r => ne1 p.1 p.2 + neZ r
theorem zs_neZ : ∀ {ns ms : List Int}, ns.length = ms.length → zs ne1 ns ms = neZ (ns.zip ms)
  | [], [], _ => rfl
  | a :: ns, b :: ms, h => by
    rw [zs_cons, zs_neZ (by simpa using h), List.zip_cons_cons]
    rfl
  | [], _ :: _, h => by simp at h
  | _ :: _, [], h => by simp at h
theorem ind_sum (p : Int × Int) : ∀ l : List Int, (l.map fun i => if p.1 = i ∧ p.2 ≠ i then (1 : Int) else 0).sum = if p.1 = p.2 then 0 else (l.count p.1 : Int)
  | [] => by simp
  | a :: l => by
    rw [List.map_cons, List.sum_cons, ind_sum p l, List.count_cons]
    by_cases h1 : p.1 = p.2
    · rw [if_pos h1, if_pos h1, if_neg (fun z => z.2 (h1.symm.trans z.1))]
      rfl
    · rw [if_neg h1, if_neg h1]
      by_cases h2 : p.1 = a
      · have h3 : p.2 ≠ a := fun z => h1 (h2.trans z.symm)
        rw [if_pos ⟨h2, h3⟩, if_pos (beq_iff_eq.mpr h2.symm)]
        omega
      · rw [if_neg (fun z => h2 z.1), if_neg (fun z => h2 (beq_iff_eq.mp z).symm)]
        omega
theorem sum_add (f g : Int → Int) : ∀ l : List Int, (l.map fun i => f i + g i).sum = (l.map f).sum + (l.map g).sum
  | [] => rfl
  | a :: l => by
    simp only [List.map_cons, List.sum_cons]
    rw [sum_add f g l]
    omega
theorem sum_zero : ∀ l : List Int, (l.map fun _ => (0 : Int)).sum = 0
  | [] => rfl
  | a :: l => by rw [List.map_cons, List.sum_cons, sum_zero l]; rfl
theorem out_sum (v : Nat) : ∀ {z : List (Int × Int)}, (∀ p ∈ z, 0 ≤ p.1 ∧ p.1 < (v : Int)) → ((upI 0 v).map fun i => outI i z).sum = neZ z
  | [], _ => sum_zero _
  | p :: r, h => by
    have ih := out_sum v (z := r) fun q hq => h q (by simp [hq])
    have hp := h p (by simp)
    have e : ((upI 0 v).map fun i => outI i (p :: r)) = (upI 0 v).map fun i => (if p.1 = i ∧ p.2 ≠ i then (1 : Int) else 0) + outI i r := rfl
    rw [e, sum_add (fun i => if p.1 = i ∧ p.2 ≠ i then (1 : Int) else 0) (fun i => outI i r), ih, ind_sum, upI_count hp.1 hp.2]
    show _ = ne1 p.1 p.2 + neZ r
    unfold ne1
    by_cases q : p.1 = p.2
    · rw [if_pos q, if_pos q]
    · rw [if_neg q, if_neg q]; rfl
theorem sum_eq_iff {a b : Int → Int} : ∀ {l : List Int}, (∀ i ∈ l, a i ≤ b i) → ((l.map a).sum ≤ (l.map b).sum) ∧ ((l.map b).sum = (l.map a).sum ↔ ∀ i ∈ l, b i = a i)
  | [], _ => ⟨Int.le_refl _, by simp⟩
  | x :: l, h => by
    obtain ⟨h1, h2⟩ := sum_eq_iff (l := l) fun i hi => h i (by simp [hi])
    have hx := h x (by simp)
    simp only [List.map_cons, List.sum_cons]
    refine ⟨by omega, ⟨fun e i hi => ?_, fun e => ?_⟩⟩
    · rcases List.mem_cons.mp hi with q | q
      · rw [q]; omega
      · exact h2.mp (by omega) i q
    · have := e x (by simp)
      have := h2.mpr fun i hi => e i (by simp [hi])
      omega
variable {ns ms : List Int} {v : Int}
def sp__law_churn (K : PySem.W.Frag) : Sp := spD K fun ds k d => ∃ (ns ms : List Int), ds = [.tuple (ns.map .int), .tuple (ms.map .int)] ∧ ns.length = ms.length ∧ ns.length ≤ 1000 ∧ k = .v ∧ d = .int (zs ne1 ns ms)
/-! ### lists with drawn items, drawn places -/
section
variable {c : Ct} {Γ : List (Option Rs)} {ta tb : TE} {k ka kb : Kd} {x : PyData}
theorem n_ixL {Pa P : PyData → Prop} {Q : Int → Prop} (ha : EvN c ta Γ ka Pa) (hb : EvN c tb Γ kb (SomeI Q)) (hr : ∀ x i, Pa x → Q i → ∃ ds d, x = .list ds ∧ atI ds i = some d ∧ flatD d = true ∧ P d) : EvN c (tOp (rIx c.K) ta tb) Γ .v P := fun H0 O H σ e Q' q =>
  ha H0 O H σ e _ fun v x H1 px r1 s1 => hb H0 O H1 σ (e.on r1) _ fun u y H2 ⟨i, hi, qi⟩ r2 s2 => by
    obtain ⟨ds, d, rfl, he, hf, pd⟩ := hr x i px qi
    subst hi
    obtain ⟨p, xs, rfl, _, s, al⟩ := (Res.bo e (Res.on e r1 r2 s1)).lst'
    obtain ⟨x, hx, bx⟩ := atI_bo al he
    exact .inl ⟨p, xs, i, x, rfl, (Res.bo (e.on r1) s2).int', s, hx, q x d H2 pd (r1.tr r2) (Bo.flatM e (r1.tr r2) hf bx)⟩
end
theorem neq_up (a b : Nat → Int) : ∀ l : List Int, (((l.filter fun i => !decide (a i.toNat = b i.toNat)).length : Nat) : Int) = (l.map fun i => ne1 (a i.toNat) (b i.toNat)).sum
  | [] => rfl
  | x :: l => by
    rw [List.filter_cons, List.map_cons, List.sum_cons, ← neq_up a b l]
    by_cases q : a x.toNat = b x.toNat
    · simp [q, ne1]
    · simp [q, ne1]
      omega
theorem churn_up : ((((upI 0 ns.length).filter fun i => !decide (ns.getD i.toNat 0 = ms.getD i.toNat 0)).length : Nat) : Int) = zs ne1 ns ms := by
  rw [neq_up (fun j => ns.getD j 0) fun j => ms.getD j 0, upI0, List.map_map]
  rfl
end Lm


/-! sorted of a tuple of ints; zip of three with one name as target -/
namespace Lm
open PySem PySem.Spec PyProof.Rows L2
section
variable {prog : Program} {w : World} {A : Around} {E : Value → Shared → Prop} {s : Shared}
theorem collectT {l : Addr} {vs : List Value} {Q : List Value → Shared → Prop} (hl : s.heap.IsTuple l vs.toArray)
    (h : Q vs { s with heap := (s.heap.push (seqObj "list" #[] 0)).update s.heap.objs.size (Obj.mapSeq (· ++ vs.toArray)) }) (hsz : vs.length ≤ sizeLine) :
    wpAny (model prog w) A (collect (.ref l)) Q E s := by
  obtain ⟨o, ho, hc, n, hd⟩ := id hl
  unfold collect
  refine wpAny_bind (wpAny_runValue (codeAny_builtin entry_proto_collect' ?_))
  show wpAny _ _ (do again (.builtin "list.__iadd__" ⟨[← newList [], .ref l], []⟩)) _ _ s
  refine wpAny_bind (wpAny_newList (wpAny_pure ⟨Code.quiet_builtin _ (by decide +kernel), codeAny_builtin entry_list_iadd' ?_⟩))
  show wpAny _ _ (Builtin.List.listExtendWith (.ref s.heap.objs.size) (.ref l) (.ref s.heap.objs.size)) _ _ { s with heap := s.heap.push (seqObj "list" #[] 0) }
  unfold Builtin.List.listExtendWith
  have ho' : (s.heap.push (seqObj "list" #[] 0)).get? l = some o := Heap.get?_push_of_some _ ho
  have hn : (s.heap.push (seqObj "list" #[] 0)).get? s.heap.objs.size = some (seqObj "list" #[] 0) := Heap.get?_push_size _ rfl
  refine wpAny_bind (wpAny_typeOf (T := "tuple") ⟨o, ho', hc⟩ ?_)
  have ht : (Value.type "tuple" == Value.type "tuple") = true := by rfl
  rw [if_pos (by rw [ht]; simp)]
  refine wpAny_bind (listItems_at ho' hd (wpAny_bind (listItems_at (xs := #[]) (n := 0) hn rfl ?_)))
  rw [if_neg (by simp)]
  refine wpAny_bind (listUpdate_at (xs := #[]) (n := 0) hn rfl ?_ (Nat.zero_le _) (by show (#[] ++ vs.toArray).size ≤ sizeLine + 1; simp only [Array.size_append, List.size_toArray, List.length_nil]; omega))
  refine wpAny_pure ?_
  show wpAny (model prog w) A (do
      let o ← load s.heap.objs.size
      match o.data with
      | .seq xs _ => pure xs.toList
      | _ => unsupported "internal:collect") Q E { s with heap := (s.heap.push (seqObj "list" #[] 0)).update s.heap.objs.size (Obj.mapSeq (· ++ vs.toArray)) }
  refine wpAny_bind (wpAny_load (get?_update_seq hn _) ?_)
  show wpAny _ _ (pure ((#[] : Array Value) ++ vs.toArray).toList) Q E _
  rw [show ((#[] : Array Value) ++ vs.toArray).toList = vs by simp]
  exact wpAny_pure h
theorem sortedT {l : Addr} {vs : List Value} {ns : List Int} {Q : Value → Shared → Prop} (hl : s.heap.IsTuple l vs.toArray) (hI : IntsAre vs ns) (h64 : vs.length < 64)
    (h : ∀ (out : Array Value) (ns' : List Int), IntsAre out.toList ns' → ns'.Perm ns → ns'.Pairwise (· ≤ ·) → Q (.ref (s.heap.objs.size + 1)) { s with heap := sortedAll s.heap vs out }) :
    wpAny (model prog w) A (call (.builtin "sorted") [.ref l]) Q E s := by
  refine Calls.call_function_entry kind_sorted plain_sorted entry_sorted (args_sorted1 _) ?_
  unfold Builtin.«sorted»
  refine wpAny_bind (m := checkCount "sorted" 1 1 _) (wpAny_pure (wpAny_bind (collectT hl ?_ (by rw [sizeLine_eq]; omega))))
  refine wpAny_bind (wpAny_newList ?_)
  have hsz : ((s.heap.push (seqObj "list" #[] 0)).update s.heap.objs.size (Obj.mapSeq (· ++ vs.toArray))).objs.size = s.heap.objs.size + 1 := by
    rw [Heap.size_update, size_push']
  have hoL : (((s.heap.push (seqObj "list" #[] 0)).update s.heap.objs.size (Obj.mapSeq (· ++ vs.toArray))).push (seqObj "list" vs.toArray 0)).get? (s.heap.objs.size + 1) = some (seqObj "list" vs.toArray 0) := by
    rw [← hsz]; exact Heap.get?_push_size _ rfl
  show wpAny _ _ _ _ _ { s with heap := ((s.heap.push (seqObj "list" #[] 0)).update s.heap.objs.size (Obj.mapSeq (· ++ vs.toArray))).push (seqObj "list" vs.toArray 0) }
  rw [hsz]
  refine wpAny_bind (wpAny_holding (wpAny_call_entry PyProof.Rows.slot_list_sort ⟨_, hoL, rfl⟩ PyProof.Rows.entry_list_sort (list_sort_tree hoL hI h64 fun out ns' a1 a2 a3 => ⟨_, rfl, ?_⟩) (PyProof.Rows.args_list_sort _)))
  exact wpAny_pure ⟨_, rfl, h out ns' a1 a2 a3⟩
end
def rSortedT (K : PySem.W.Frag) : List V → Hp → VK → Prop := fun vs H Q => ∃ (a : Addr) (ns : List Int), vs = [V.ref a] ∧ SqT K H a (ns.map V.int) ∧ ns.length < 64 ∧
  ∀ (ns' : List Int) (p : Addr), ns'.Perm ns → ns'.Pairwise (· ≤ ·) → H p = none → Q (.ref p) (upd H p (.lst (ns'.map V.int)))
section
variable {X : Cx}
theorem cr_sortedT : CallR X (.builtin "sorted") (rSortedT X.K) := by
  intro pins s σ H vs us Q I r h
  obtain ⟨a, ns, rfl, hs, h64, q⟩ := h
  obtain ⟨its, rv, hl, _⟩ := I.tuple hs
  rw [Vals.ref1 r]
  have hi := ints_of_vals rv
  refine sortedT (show s.heap.IsTuple a its.toArray from hl) hi (by rw [hi.length]; exact h64) fun out ns' h1 h2 h3 => ?_
  obtain ⟨ep, he'⟩ := PyProof.Rows.sortedAll_at s.heap its out
  have hlen : (ns'.map V.int).length ≤ sizeLine := by rw [List.length_map, h2.length_eq]; exact small64 h64
  exact ⟨.ref _, upd H (s.heap.objs.size + 1) (.lst (ns'.map V.int)), I.laid (t' := s.toks) (fun _ _ => PyProof.Rows.sortedAll_old) (Nat.le_succ _) ⟨hlen, out.toList, ep, vals_of_ints h1, he'⟩, rfl, q ns' _ h2 h3 (I.hok.fresh (Nat.le_succ _))⟩
def rSortedA (K : PySem.W.Frag) : List V → Hp → VK → Prop := fun vs H Q => rSorted K vs H Q ∨ rSortedT K vs H Q
theorem k_sorted {K : PySem.W.Frag} (hK : X.K = K) : CallR X (.builtin "sorted") (rSortedA K) := hK ▸ cr_sorted.or cr_sortedT
end
section
variable {c : Ct} {Γ : List (Option Rs)} {te : TE} {k : Kd}
end
/-! ### zip of three -/
section
variable {prog : Program} {w : World} {A : Around} {E : Value → Shared → Prop} {s : Shared} {z TI TO i1 i2 i3 : Addr} {fp1 fp2 fp3 : List Addr} {n1 n2 n3 i : Nat} {P1 P2 P3 : Nat → Value → Prop} {St1 St2 St3 : Nat → Heap → Prop} {a1 a2 a3 : Value} {b : Bool} {x : Value}
end
section
variable {prog : Program} {w : World} {A : Around} {E : Value → Shared → Prop} {s : Shared}
theorem next_zip {z TI TO : Addr} {x : Value} {b : Bool} {Q : Option Value → Shared → Prop} (hz : IsZipX s.heap z TI TO x b)
    (h : ∀ E' : Value → Shared → Prop, wpAny (model prog w) A.in1 (Builtin.«zip.__next__» ⟨[.ref z], []⟩) (fun fin s' => ∃ v, fin = .done (.ret v) ∧ Q (some v) s') E' s) : wpAny (model prog w) A (pyNext (.ref z)) Q E s := by
  have hT : s.TypeIs (.ref z) "zip" := ⟨_, hz, rfl⟩
  unfold pyNext
  refine wpAny_bind (wpAny_attempt (wpAny_callSpecial?_slot (name := Str.ofString "__next__") hT F.slot_zip_next
    (wpAny_call_entry F.slot_zip_next hT F.entry_zip_next ?_ (F.args_zip_next_1 _))))
  refine wpAny_mono (h _) (fun fin s' ⟨v, e, q⟩ => ?_) fun _ _ y => y
  subst e
  exact ⟨v, rfl, wpAny_pure q⟩
end
end Lm


/-! medians -/
namespace Lm
open PySem PySem.Spec PyProof.Rows L2
variable {as bs cs : List Int}
theorem flat3 (as bs cs : List Int) : flatAll [.tuple (as.map .int), .tuple (bs.map .int), .tuple (cs.map .int)] = true := by simp [flatAll, flatD, flatAll_ints]
end Lm


/-! the least churn is what goes over -/
namespace Lm
open PySem PySem.Spec PyProof.Rows L2
variable {f g h ns ms : List Int} {v : Int}
/-- all assignments of n buckets to v variants -/
def allL (v : Int) : Nat → List (List Int)
  | 0 => [[]]
  | n + 1 => (allL v n).flatMap fun r => (upI 0 v.toNat).map fun x => r ++ [x]
theorem mem_allL (hv : 0 ≤ v) : ∀ (n : Nat) (r : List Int), r ∈ allL v n ↔ r.length = n ∧ ∀ x ∈ r, 0 ≤ x ∧ x < v
  | 0, r => by
    constructor
    · intro h
      have : r = [] := by simpa [allL] using h
      subst this
      exact ⟨rfl, fun _ h => nomatch h⟩
    · rintro ⟨h, _⟩
      rw [List.eq_nil_of_length_eq_zero h]
      simp [allL]
  | n + 1, r => by
    unfold allL
    rw [List.mem_flatMap]
    constructor
    · rintro ⟨q, hq, h⟩
      obtain ⟨x, hx, rfl⟩ := List.mem_map.mp h
      obtain ⟨h1, h2⟩ := (mem_allL hv n q).mp hq
      refine ⟨by simp [h1], fun y hy => ?_⟩
      rcases List.mem_append.mp hy with w | w
      · exact h2 y w
      · rw [List.mem_singleton.mp w]
        have := mem_upI.mp hx
        omega
    · rintro ⟨h1, h2⟩
      have hne : r ≠ [] := fun z => by rw [z] at h1; simp at h1
      refine ⟨r.dropLast, (mem_allL hv n _).mpr ⟨by rw [List.length_dropLast]; omega, fun x hx => h2 x (List.dropLast_subset r hx)⟩, List.mem_map.mpr ⟨r.getLast hne, mem_upI.mpr ?_, List.dropLast_concat_getLast hne⟩⟩
      have := h2 _ (List.getLast_mem hne)
      omega
end Lm


/-! a list handed from one name to another, list.extend, tuples put together, all assignments -/
namespace Lm
open PySem PySem.Spec PyProof.Rows L2
section
variable {c : Ct} {H H' H0 H1 H2 H3 : Hp} {O : List Addr} {σ : L2.St} {Γ Γ' Γ1 : List (Option Rs)}
variable {te ta tb : TE} {k ka kb : Kd} {d : PyData} {i j : Int} {ds es : List PyData} {u : TS} {P : Out → Prop} {n m : Nat}
theorem Env.move (e : Env c H0 O H σ Γ) (h : Γ[n]? = some (some (.o d))) (hm : m < Γ.length) : ∃ v, σ[n]? = some (some v) ∧ Env c H0 O H (σ.set m (some v)) ((Γ.set n none).set m (some (.o d))) := by
  obtain ⟨fp, hr, nd, sub⟩ := e.rep
  obtain ⟨x, f, pre, post, hx, ⟨v, rfl, fo⟩, hfp, up⟩ := hr.nth h
  subst hfp
  refine ⟨v, hx, e.r0, e.j, e.fr, e.dm, ?_⟩
  have r1 : Reps c O H (σ.set n (some v)) (Γ.set n none) (pre ++ ([] ++ post)) := up O H (some v) none [] (fun _ _ _ _ z => z) rfl
  have es : σ.set n (some v) = σ := by
    obtain ⟨hlt, e1⟩ := List.getElem?_eq_some_iff.mp hx
    rw [← e1]
    exact List.set_getElem_self hlt
  rw [es] at r1
  obtain ⟨y, f2, pre2, post2, hy, _, hfp2, up2⟩ := r1.nth (i := m) (s := (Γ.set n none)[m]'(by rw [List.length_set]; exact hm)) (List.getElem?_eq_getElem _)
  have r2 := up2 O H (some v) (some (.o d)) f (fun _ _ _ _ z => z) ⟨v, rfl, fo⟩
  rw [List.nil_append] at hfp2
  have p1 : (pre ++ (f ++ post)).Perm (f ++ (pre ++ post)) := by
    rw [← List.append_assoc, ← List.append_assoc]
    exact List.Perm.append_right _ List.perm_append_comm
  have nd1 := p1.nodup_iff.mp nd
  rw [hfp2] at nd1
  have p2 : (pre2 ++ (f ++ post2)).Perm (f ++ (pre2 ++ post2)) := by
    rw [← List.append_assoc, ← List.append_assoc]
    exact List.Perm.append_right _ List.perm_append_comm
  refine ⟨_, r2, p2.nodup_iff.mpr (nd1.sublist ?_), fun a ha => sub a (p1.mem_iff.mpr ?_)⟩
  · refine List.Sublist.append (List.Sublist.refl _) (List.Sublist.append (List.Sublist.refl _) ?_)
    exact List.sublist_append_right _ _
  · rw [hfp2]
    have := p2.mem_iff.mp ha
    simp at this ⊢
    rcases this with w | w | w <;> simp [w]
theorem s_mov (h : Γ[n]? = some (some (.o d))) (hm : m < Γ.length) (p : P (.nx ((Γ.set n none).set m (some (.o d))))) : Sd c (tAsg (tVar n) (gName m)) Γ P := fun H0 O H σ D e s => by
  obtain ⟨v, hv, e'⟩ := e.move h hm
  exact ⟨v, hv, s _ p O H _ e'⟩
/-- t + u -/
theorem e_catT (ha : Ev c ta Γ .v (.tuple ds)) (hb : Ev c tb Γ .v (.tuple es)) (hl : ds.length + es.length ≤ 1000000) : Ev c (tOp (rAddA c.K) ta tb) Γ .v (.tuple (ds ++ es)) := fun H0 O H σ e Q q =>
  ha H0 O H σ e _ fun v H1 r1 s1 => hb H0 O H1 σ (e.on r1) _ fun u H2 r2 s2 => by
    have bv : Bo c (mns H2 O) v (.tuple ds) := Res.on e r1 r2 s1
    have bu : Bo c (mns H2 O) u (.tuple es) := s2
    obtain ⟨p, xs, rfl, s, al⟩ := Bo.tup' bv
    obtain ⟨p2, ys, rfl, s', al'⟩ := Bo.tup' bu
    refine .inr (.inl ⟨p, p2, xs, ys, rfl, rfl, (sqT_same mns_same s).sq, (sqT_same mns_same s').sq, by rw [al.len, al'.len]; exact sizeOk hl, fun hx => ?_, fun hx hy => ?_, fun _ _ => newTk (c := c) fun q' H3 hp sm tp => ?_⟩)
    · subst hx
      cases al
      exact q _ H2 (r1.tr r2) bu
    · subst hy
      cases al'
      exact q _ H2 (r1.tr r2) (by show Bo c (mns H2 O) _ _; rw [List.append_nil]; exact bv)
    · have r3 : Rr c H2 H3 := Rr.same sm
      have e2 := (e.on r1).on r2
      exact q _ H3 ((r1.tr r2).tr r3) (.tup (tpN_mns e2 r3 tp) ((al.app al').mono e2.j (r3.mns e2.j e2.okO)))
/-- xs.extend(a new list of flat things) -/
theorem s_ext (hx : Γ[n]? = some (some (.o (.list ds)))) (h : Ev c te Γ .o (.list es)) (hf : flatAll es = true) (hl : ds.length + es.length ≤ 1000000) (p : P (.nx (Γ.set n (some (.o (.list (ds ++ es))))))) : Sd c (tDrop (tBM c.K "list" rExtend (tVar n) (tCons te tNil))) Γ P := fun H0 O H σ D e s => by
  obtain ⟨q, xs, f, hq, hp, fa, qf, qO, _⟩ := e.write (es := ds ++ es) hx
  refine ⟨.ref q, hq, .inl ⟨rfl, xs, .inl (.inl hp)⟩, h H0 O H σ e _ fun v H2 r rs => ?_⟩
  obtain ⟨fp, fo, nd, new⟩ := rs
  obtain ⟨b, zs, g, rfl, rfl, hb, fb⟩ := fo.list'
  obtain ⟨_, bb⟩ := fb.flat0 hf
  have e2 := e.on r
  obtain ⟨q', xs', f', hq', hp', fa', qf', qO', wr⟩ := e2.write (es := ds ++ es) hx
  have : q' = q := by rw [hq] at hq'; cases hq'; rfl
  subst this
  have lx : xs'.length = ds.length := (fa'.bo fun a ha => e.okO a (qO' a ha)).len
  refine ⟨q', b, xs', zs, rfl, rfl, hp', hb, by rw [lx, bb.len]; exact sizeOk hl, s _ p O _ σ (wr (xs' ++ zs) ?_)⟩
  have := fa'.app (FoAll.leaves hf bb)
  rw [List.append_nil] at this
  exact this.up (fun _ _ s => sqT_upd hp' s) fun a ha o z => by
    have : a ≠ q' := fun w => qf' (w ▸ ha)
    rw [upd_ne this]; exact z
end
abbrev tupD (r : List Int) : PyData := .tuple (r.map .int)
theorem allL_len (v : Int) : ∀ n, (allL v n).length = v.toNat ^ n
  | 0 => rfl
  | n + 1 => by
    unfold allL
    rw [List.length_flatMap, Nat.pow_succ, ← allL_len v n]
    generalize allL v n = l
    induction l with
    | nil => simp
    | cons a l ih => simp [upI] at ih ⊢; rw [Nat.add_mul]; omega
end Lm


/-! own lists within an own list: rows[i][j] = .. -/
namespace Lm
open PySem PySem.Spec PyProof.Rows L2
variable {c : Ct} {H H' H0 H1 H2 H3 : Hp} {O : List Addr} {σ : L2.St} {Γ Γ' Γ1 : List (Option Rs)}
theorem FoAll.nth : ∀ {xs : List V} {ds : List PyData} {f : List Addr} {i : Nat} {d : PyData}, FoAll c H xs ds f → ds[i]? = some d →
    ∃ x g pre post, xs[i]? = some x ∧ Fo c H x d g ∧ f = pre ++ (g ++ post) ∧ ∀ (H' : Hp) (x' : V) (d' : PyData) (g' : List Addr), (∀ a xs, TpN c.K H a xs → TpN c.K H' a xs) → (∀ a ∈ pre ++ post, ∀ o, H a = some o → H' a = some o) → Fo c H' x' d' g' →
      FoAll c H' (xs.set i x') (ds.set i d') (pre ++ (g' ++ post))
  | _, _, _, _, _, .nil, h => by simp at h
  | _, _, _, 0, d, .cons (v := v) (f := f) (fs := fs) a b, h => by
    have e : _ = d := Option.some.inj h
    subst e
    exact ⟨v, f, [], fs, rfl, a, rfl, fun H' x' d' g' hT hk fo => FoAll.cons (f := g') (fs := fs) fo (b.up hT fun y hy => hk y (by simpa using hy))⟩
  | _, _, _, i + 1, d, .cons (v := v) (f := f) (fs := fs) a b, h => by
    obtain ⟨x, g, pre, post, h1, h2, h3, h4⟩ := FoAll.nth (i := i) b (by simpa using h)
    refine ⟨x, g, f ++ pre, post, by simpa using h1, h2, by rw [h3, List.append_assoc], fun H' x' d' g' hT hk fo => ?_⟩
    have r := h4 H' x' d' g' hT (fun y hy o z => hk y (by simp at hy ⊢; rcases hy with w | w <;> simp [w]) o z) fo
    rw [List.append_assoc]
    exact .cons (a.up hT fun y hy => hk y (by simp [hy])) r
end Lm


/-! choices and factorials -/
namespace Lm
open PySem PySem.Spec PyProof.Rows L2
def cho : Nat → Nat → Nat
  | _, 0 => 1
  | 0, _ + 1 => 0
  | n + 1, k + 1 => cho n k + cho n (k + 1)
end Lm


/-! products of choices -/
namespace Lm
open PySem PySem.Spec PyProof.Rows L2
def prodN : List Nat → Nat
  | [] => 1
  | a :: l => a * prodN l
/-- p things shared out, one choice after another -/
def mul2 (p : Nat) : List Nat → Nat
  | [] => 1
  | e :: es => cho p e * mul2 (p - e) es
end Lm


/-! states, their ways -/
namespace Lm
open PySem PySem.Spec PyProof.Rows L2
section
variable {X : Cx}
end
section
variable {c : Ct} {Γ : List (Option Rs)} {te ta tb : TE} {k ka kb : Kd} {u : TS} {P : Out → Prop} {n : Nat} {i j : Int}
end
def lvI (ns ms : List Int) : List Int := (ns.zip ms).map fun p => t0 p.1 p.2
def enI (ns ms : List Int) : List Int := (ns.zip ms).map fun p => t0 p.2 p.1
def waysN (ns ls es : List Int) : Nat := prodN ((ns.zip ls).map fun p => cho p.1.toNat p.2.toNat) * mul2 es.sum.toNat (es.map Int.toNat)
def sp_first_state (K : PySem.W.Frag) : Sp := spD K fun ds k d => ∃ (as f : List Int) (v : Int), ds = [.tuple (as.map .int), .tuple (f.map .int)] ∧ Asg f v ∧ Alc as v f.length ∧ 1 ≤ v ∧ v ≤ 5 ∧ k = .v ∧ d = .tuple [.tuple ((countsI f v).map .int), .tuple ((lvI (countsI f v) as).map .int), .tuple ((enI (countsI f v) as).map .int)]
/-- a state whose ways can be counted -/
structure StOk (ns ls es : List Int) : Prop where
  len : ns.length = ls.length
  l1 : ns.length ≤ 1000
  l2 : es.length ≤ 1000
  le : ∀ p ∈ ns.zip ls, 0 ≤ p.2 ∧ p.2 ≤ p.1 ∧ p.1 ≤ 20
  nn : ∀ e ∈ es, 0 ≤ e
  sum : es.sum ≤ 20
theorem zip_t0_sum : ∀ {ns ms : List Int}, ns.length = ms.length → (lvI ns ms).sum = zs t0 ns ms ∧ (enI ns ms).sum = zs t0 ms ns
  | [], [], _ => ⟨rfl, rfl⟩
  | a :: ns, b :: ms, h => by
    obtain ⟨h1, h2⟩ := zip_t0_sum (ns := ns) (ms := ms) (by simpa using h)
    rw [zs_cons, zs_cons, ← h1, ← h2]
    exact ⟨rfl, rfl⟩
  | [], _ :: _, h => by simp at h
  | _ :: _, [], h => by simp at h
end Lm


/-! how many ways there are, told with factorials -/
namespace Lm
open PySem PySem.Spec PyProof.Rows L2
section
variable {cs as : List Int} (hl : cs.length = as.length) (hc : ∀ n ∈ cs, 0 ≤ n) (ha : ∀ n ∈ as, 0 ≤ n)
include hl hc ha
end
theorem e_eqB {c : Ct} {Γ : List (Option Rs)} {ta tb : TE} {ka kb : Kd} {a b : Bool} (ha : Ev c ta Γ ka (.bool a)) (hb : Ev c tb Γ kb (.bool b)) : Ev c (tOp (rEqA c.K) ta tb) Γ .v (.bool (a == b)) :=
  e_eqS ha hb rfl rfl rfl (by cases a <;> cases b <;> rfl)
end Lm


/-! slices of tuples; min and max of lists; sorted of lists; int of a truth; sums over three lists: what is in the middle -/
namespace Lm
open PySem PySem.Spec PyProof.Rows L2
section
variable {X : Cx} {K : PySem.W.Frag} (hK : X.K = K)
include hK
end
variable {c : Ct} {H H' H0 H1 H2 H3 : Hp} {O : List Addr} {Γ Γ' Γ1 : List (Option Rs)}
variable {te ta tb tx : TE} {tl th : TO} {k ka kb : Kd} {d x y z : PyData} {i j : Int} {a b : Bool} {ds es : List PyData}
def Eo (c : Ct) (t : TO) (Γ : List (Option Rs)) (o : Option Int) : Prop :=
  ∀ H0 O H σ, Env c H0 O H σ Γ → ∀ Q : Option Int → Hp → Prop, (∀ H2, Rr c H H2 → Q o H2) → t σ H Q
theorem o_none : Eo c tNoPart Γ none := fun H0 O H σ e Q q => q H Rr.rf
theorem o_some (h : Ev c te Γ k (.int i)) : Eo c (tPart te) Γ (some i) := fun H0 O H σ e Q q => h H0 O H σ e _ fun v H2 r s => ⟨i, (Res.bo e s).int', q H2 r⟩
def cutD {α : Type} (ds : List α) (lo hi : Option Int) : List α := (ds.drop (HT.sIx ds.length 0 lo)).take (HT.sIx ds.length ds.length hi - HT.sIx ds.length 0 lo)
theorem BoAll.cut {vs : List V} {lo hi : Option Int} (h : BoAll c H vs ds) : BoAll c H (cutV vs lo hi) (cutD ds lo hi) := by
  unfold cutV cutD
  rw [h.len]
  exact (h.drop _).take _
theorem e_sl {lo hi : Option Int} (h : Ev c te Γ .v (.tuple ds)) (h1 : Eo c tl Γ lo) (h2 : Eo c th Γ hi) : Ev c (tSl (rSlN c.K) te tl th) Γ .v (.tuple (cutD ds lo hi)) := fun H0 O H σ e Q q =>
  h H0 O H σ e _ fun v H1 r1 s1 => h1 H0 O H1 σ (e.on r1) _ fun H2 r2 => h2 H0 O H2 σ ((e.on r1).on r2) _ fun H3 r3 => by
    have r : Rr c H H3 := (r1.tr r2).tr r3
    obtain ⟨p, xs, rfl, s, al⟩ := Bo.tup' (Res.on e r1 (r2.tr r3) s1)
    refine ⟨p, xs, rfl, (sqT_same mns_same s).sq, fun w => ?_, fun _ => newTk (c := c) fun p' H4 hp sm tp => ?_⟩
    · refine q (.ref p) H3 r ?_
      have e1 : cutD ds lo hi = ds := by
        unfold cutD
        rw [← al.len, w.1, w.2, al.len]
        simp
      rw [e1]
      exact .tup s al
    · have r4 : Rr c H H4 := r.tr (Rr.same sm)
      exact q _ H4 r4 (.tup (tpN_mns e r4 tp) (al.cut.mono (e.on r).j ((Rr.same sm : Rr c H3 H4).mns (e.on r).j e.okO)))
theorem cutD_lo {α : Type} {ds : List α} {t : Nat} (h : t ≤ ds.length) : cutD ds (some (t : Int)) none = ds.drop t := by
  unfold cutD
  rw [HT.sIx_nat, HT.sIx_none, Nat.min_eq_left h]
  apply List.take_of_length_le
  simp
theorem cutD_hi {α : Type} {ds : List α} {t : Nat} (h : t ≤ ds.length) : cutD ds none (some (t : Int)) = ds.take t := by
  unfold cutD
  rw [HT.sIx_nat, HT.sIx_none, Nat.min_eq_left h]
  simp
/-! min and max of a list -/
def mxL : List Int → Int
  | [] => 0
  | [n] => n
  | n :: m :: ns => if mxL (m :: ns) > n then mxL (m :: ns) else n
theorem mxL_mem : ∀ {ns : List Int}, 0 < ns.length → mxL ns ∈ ns
  | [n], _ => by simp [mxL]
  | n :: m :: ns, _ => by
    have := mxL_mem (ns := m :: ns) (by simp)
    unfold mxL
    split
    · exact List.mem_cons_of_mem _ this
    · simp
theorem mxL_le : ∀ {ns : List Int}, ∀ y ∈ ns, y ≤ mxL ns
  | [], _, h => nomatch h
  | [n], y, h => by rw [List.mem_singleton.mp h]; exact Int.le_refl _
  | n :: m :: ns, y, h => by
    unfold mxL
    rcases List.mem_cons.mp h with q | q
    · subst q; split <;> omega
    · have := mxL_le (ns := m :: ns) y q
      split <;> omega
/-- sorted(xs): a new list -/
theorem n_sortedL {ns : List Int} (h : Ev c te Γ k (.list (ns.map .int))) (hl : ns.length < 64) : EvN c (tCB (rSortedA c.K) (tCons te tNil)) Γ .o (fun d => ∃ ns' : List Int, d = .list (ns'.map .int) ∧ ns'.Perm ns ∧ ns'.Pairwise (· ≤ ·)) := fun H0 O H σ e Q q =>
  h H0 O H σ e _ fun v H1 r s => by
    obtain ⟨p, xs, rfl, _, sl, al⟩ := (Res.bo e s).lst'
    have := al.ints
    subst this
    refine .inl ⟨p, ns, rfl, sl, hl, fun ns' p' h1 h2 hp => ?_⟩
    have sm : Same H1 (upd H1 p' (.lst (ns'.map V.int))) := fun b u z => by rw [upd_ne (ne_of_none z hp)]; exact z
    exact q _ _ _ ⟨ns', rfl, h1, h2⟩ (r.tr (Rr.same sm)) ⟨[p'], .lst upd_same (FoAll.leaves (flatAll_ints _) (BoAll.ofInts _)), by simp, fun a ha => by
      cases List.mem_singleton.mp ha
      exact r.back e.jH hp⟩
/-! sums over three lists -/
def z3 (F : Int → Int → Int → Int) (as bs cs : List Int) : Int := ((List.range as.length).map fun j => F (as.getD j 0) (bs.getD j 0) (cs.getD j 0)).sum
variable {F : Int → Int → Int → Int} {as bs cs as' bs' cs' : List Int}
variable {f g h : List Int} {v m : Int}
end Lm


/-! states, what can come next, and the ways on: the least changes -/
namespace Lm
open PySem PySem.Spec PyProof.Rows L2
abbrev gI (l : List Int) (i : Int) : Int := l.getD i.toNat 0
def lssI (p : Int) (l : List Int) : List Int := l.set p.toNat (gI l p - 1)
structure S3 where
  c : List Int
  l : List Int
  e : List Int
def optI (S : S3) (o : Int) : List Int :=
  if gI S.l o = 0 then [o] else (upI 0 S.e.length).filter fun i => decide (0 < gI S.e i) || (decide (i = o) && decide (gI S.l o < gI S.c o))
def aftI (S : S3) (o n : Int) : S3 := if n = o then ⟨lssI o S.c, S.l, S.e⟩ else ⟨lssI o S.c, lssI o S.l, lssI n S.e⟩
theorem dec_len {p : Int} {l : List Int} : (lssI p l).length = l.length := by simp [lssI]
theorem dec_get {p i v : Int} {l : List Int} (hl : (l.length : Int) = v) (hp : 0 ≤ p ∧ p < v) (hi : 0 ≤ i ∧ i < v) : gI (lssI p l) i = gI l i - (if p = i then 1 else 0) := by
  unfold gI lssI
  rw [List.getD_eq_getElem?_getD, List.getElem?_set]
  by_cases q : p = i
  · subst q
    rw [if_pos rfl, if_pos rfl, if_pos (by omega)]
    rfl
  · rw [if_neg (by omega), if_neg q, ← List.getD_eq_getElem?_getD]
    omega
theorem sum_setI {x : Int} : ∀ {l : List Int} {k : Nat}, k < l.length → (l.set k x).sum = l.sum - l.getD k 0 + x
  | [], _, h => by simp at h
  | a :: l, 0, _ => by
    show (x :: l).sum = (a :: l).sum - a + x
    rw [List.sum_cons, List.sum_cons]; omega
  | a :: l, k + 1, h => by
    have := sum_setI (l := l) (k := k) (x := x) (by simpa using h)
    show (a :: l.set k x).sum = (a :: l).sum - l.getD k 0 + x
    rw [List.sum_cons, List.sum_cons]; omega
theorem dec_sum {p v : Int} {l : List Int} (hl : (l.length : Int) = v) (hp : 0 ≤ p ∧ p < v) : (lssI p l).sum = l.sum - 1 := by
  unfold lssI
  rw [sum_setI (by omega)]
  unfold gI
  omega
/-- a state that stands before the buckets f -/
structure St (v : Int) (S : S3) (f : List Int) : Prop where
  cl : (S.c.length : Int) = v
  ll : (S.l.length : Int) = v
  el : (S.e.length : Int) = v
  cs : ∀ i, 0 ≤ i ∧ i < v → gI S.c i = f.count i
  ls : ∀ i, 0 ≤ i ∧ i < v → 0 ≤ gI S.l i ∧ gI S.l i ≤ f.count i
  es : ∀ i, 0 ≤ i ∧ i < v → 0 ≤ gI S.e i ∧ (gI S.l i = 0 ∨ gI S.e i = 0)
  sum : S.l.sum = S.e.sum
  rng : ∀ n ∈ f, 0 ≤ n ∧ n < v
/-- the buckets f become g, with what the state tells -/
structure Fit (v : Int) (S : S3) (f g : List Int) : Prop where
  len : g.length = f.length
  rng : ∀ n ∈ g, 0 ≤ n ∧ n < v
  out : ∀ i, 0 ≤ i ∧ i < v → outI i (f.zip g) = gI S.l i
  inn : ∀ i, 0 ≤ i ∧ i < v → innI i (f.zip g) = gI S.e i
variable {v o n : Int} {S : S3} {f g : List Int}
theorem out_le (i : Int) : ∀ {f g : List Int}, outI i (f.zip g) ≤ f.count i
  | [], _ => by simp [outI]
  | a :: f, [] => by simp [outI]
  | a :: f, b :: g => by
    have := out_le i (f := f) (g := g)
    rw [List.zip_cons_cons, List.count_cons]
    unfold outI
    by_cases h : a = i
    · subst h; simp; split <;> omega
    · rw [if_neg (fun z => h z.1), if_neg (by simpa using h)]; omega
theorem mem_opt (h : St v S (o :: f)) : n ∈ optI S o ↔ (0 ≤ n ∧ n < v) ∧ (if n = o then gI S.l o < gI S.c o else gI S.l o ≠ 0 ∧ 0 < gI S.e n) := by
  have ho := h.rng o (by simp)
  have c1 := h.cs o ho
  have c2 := h.es o ho
  have c3 := h.ls o ho
  have cp : 0 < (o :: f).count o := by simp
  unfold optI
  by_cases q : gI S.l o = 0
  · rw [if_pos q, List.mem_singleton]
    by_cases w : n = o
    · rw [if_pos w]
      exact ⟨fun _ => ⟨by omega, by omega⟩, fun _ => w⟩
    · rw [if_neg w]
      exact ⟨fun z => absurd z w, fun z => absurd q z.2.1⟩
  · rw [if_neg q, List.mem_filter, mem_upI]
    have el := h.el
    by_cases w : n = o
    · subst w
      rw [if_pos rfl]
      have e0 : gI S.e n = 0 := by rcases c2.2 with z | z; exact absurd z q; exact z
      simp only [e0]
      constructor
      · rintro ⟨h1, h2⟩
        exact ⟨by omega, by simpa using h2⟩
      · rintro ⟨h1, h2⟩
        exact ⟨by omega, by simpa using h2⟩
    · rw [if_neg w]
      constructor
      · rintro ⟨h1, h2⟩
        exact ⟨by omega, q, by simpa [w] using h2⟩
      · rintro ⟨h1, _, h2⟩
        exact ⟨by omega, by simpa [w] using h2⟩
theorem St.after (h : St v S (o :: f)) (hn : n ∈ optI S o) : St v (aftI S o n) f := by
  obtain ⟨rn, hn⟩ := (mem_opt h).mp hn
  have ho := h.rng o (by simp)
  have cc : ∀ i : Int, ((o :: f).count i : Int) = f.count i + (if o = i then 1 else 0) := fun i => by
    rw [List.count_cons]
    by_cases q : o = i <;> simp [q]
  have rf : ∀ n ∈ f, 0 ≤ n ∧ n < v := fun n hn => h.rng n (by simp [hn])
  unfold aftI
  by_cases w : n = o
  · rw [if_pos w] at hn ⊢
    refine ⟨by rw [dec_len]; exact h.cl, h.ll, h.el, fun i hi => ?_, fun i hi => ?_, h.es, h.sum, rf⟩
    · have := h.cs i hi
      rw [dec_get h.cl ho hi, this, cc]; omega
    · have c0 := h.cs o ho
      have c1 := h.ls i hi
      have c2 := cc i
      by_cases q : o = i
      · subst q
        rw [if_pos rfl] at c2
        show 0 ≤ gI S.l o ∧ gI S.l o ≤ _
        omega
      · rw [if_neg q] at c2
        show 0 ≤ gI S.l i ∧ gI S.l i ≤ _
        omega
  · rw [if_neg w] at hn ⊢
    refine ⟨by rw [dec_len]; exact h.cl, by rw [dec_len]; exact h.ll, by rw [dec_len]; exact h.el, fun i hi => ?_, fun i hi => ?_, fun i hi => ?_, ?_, rf⟩
    · have := h.cs i hi
      show gI (lssI o S.c) i = _
      rw [dec_get h.cl ho hi, this, cc]; omega
    · show 0 ≤ gI (lssI o S.l) i ∧ gI (lssI o S.l) i ≤ _
      rw [dec_get h.ll ho hi]
      have c1 := h.ls i hi
      have c2 := cc i
      by_cases q : o = i
      · subst q; rw [if_pos rfl] at c2 ⊢; omega
      · rw [if_neg q] at c2 ⊢; omega
    · show 0 ≤ gI (lssI n S.e) i ∧ (gI (lssI o S.l) i = 0 ∨ gI (lssI n S.e) i = 0)
      rw [dec_get h.ll ho hi, dec_get h.el rn hi]
      have c1 := h.es i hi
      have c2 := h.es n rn
      have c3 := h.ls i hi
      have c4 := h.es o ho
      by_cases q : n = i
      · subst q
        rw [if_pos rfl, if_neg (fun z => w z.symm)]
        omega
      · rw [if_neg q]
        by_cases q2 : o = i
        · subst q2; rw [if_pos rfl]; omega
        · rw [if_neg q2]; omega
    · show (lssI o S.l).sum = (lssI n S.e).sum
      rw [dec_sum h.ll ho, dec_sum h.el rn, h.sum]
theorem fit_cons (h : St v S (o :: f)) : Fit v S (o :: f) (n :: g) ↔ n ∈ optI S o ∧ Fit v (aftI S o n) f g := by
  have ho := h.rng o (by simp)
  have co := h.cs o ho
  have cc : ((o :: f).count o : Int) = f.count o + 1 := by rw [List.count_cons]; simp
  have zo : ∀ i, outI i ((o :: f).zip (n :: g)) = (if o = i ∧ n ≠ i then 1 else 0) + outI i (f.zip g) := fun i => rfl
  have zi : ∀ i, innI i ((o :: f).zip (n :: g)) = (if n = i ∧ o ≠ i then 1 else 0) + innI i (f.zip g) := fun i => rfl
  rw [mem_opt h]
  constructor
  · intro k
    have rn := k.rng n (by simp)
    have ko := k.out o ho
    have kn := k.inn n rn
    rw [zo] at ko
    rw [zi] at kn
    have lo := out_le o (f := f) (g := g)
    have no := out_nn o (f.zip g)
    have nn := inn_nn n (f.zip g)
    refine ⟨⟨rn, ?_⟩, by simpa using k.len, fun m hm => k.rng m (by simp [hm]), fun i hi => ?_, fun i hi => ?_⟩
    · by_cases w : n = o
      · rw [if_pos w]
        rw [if_neg (fun z => z.2 w)] at ko
        omega
      · rw [if_neg w]
        rw [if_pos ⟨rfl, w⟩] at ko
        rw [if_pos ⟨rfl, fun z => w z.symm⟩] at kn
        exact ⟨by omega, by omega⟩
    · have ki := k.out i hi
      rw [zo] at ki
      unfold aftI
      by_cases w : n = o
      · rw [if_pos w]
        rw [if_neg (fun z => z.2 (w.trans z.1))] at ki
        show _ = gI S.l i
        omega
      · rw [if_neg w]
        show _ = gI (lssI o S.l) i
        rw [dec_get h.ll ho hi]
        by_cases q : o = i
        · subst q; rw [if_pos ⟨rfl, w⟩] at ki; rw [if_pos rfl]; omega
        · rw [if_neg (fun z => q z.1)] at ki; rw [if_neg q]; omega
    · have ki := k.inn i hi
      rw [zi] at ki
      unfold aftI
      by_cases w : n = o
      · rw [if_pos w]
        rw [if_neg (fun z => z.2 (w.symm.trans z.1))] at ki
        show _ = gI S.e i
        omega
      · rw [if_neg w]
        show _ = gI (lssI n S.e) i
        rw [dec_get h.el rn hi]
        by_cases q : n = i
        · subst q; rw [if_pos ⟨rfl, fun z => w z.symm⟩] at ki; rw [if_pos rfl]; omega
        · rw [if_neg (fun z => q z.1)] at ki; rw [if_neg q]; omega
  · rintro ⟨⟨rn, hn⟩, k⟩
    refine ⟨by simpa using k.len, fun m hm => ?_, fun i hi => ?_, fun i hi => ?_⟩
    · rcases List.mem_cons.mp hm with q | q
      · rw [q]; exact rn
      · exact k.rng m q
    · have ki := k.out i hi
      rw [zo]
      unfold aftI at ki
      by_cases w : n = o
      · rw [if_pos w] at ki
        have ki' : outI i (f.zip g) = gI S.l i := ki
        rw [if_neg (fun z => z.2 (w.trans z.1))]
        omega
      · rw [if_neg w] at ki
        have ki' : outI i (f.zip g) = gI (lssI o S.l) i := ki
        rw [dec_get h.ll ho hi] at ki'
        by_cases q : o = i
        · subst q; rw [if_pos ⟨rfl, w⟩]; rw [if_pos rfl] at ki'; omega
        · rw [if_neg (fun z => q z.1)]; rw [if_neg q] at ki'; omega
    · have ki := k.inn i hi
      rw [zi]
      unfold aftI at ki
      by_cases w : n = o
      · rw [if_pos w] at ki
        have ki' : innI i (f.zip g) = gI S.e i := ki
        rw [if_neg (fun z => z.2 (w.symm.trans z.1))]
        omega
      · rw [if_neg w] at ki
        have ki' : innI i (f.zip g) = gI (lssI n S.e) i := ki
        rw [dec_get h.el rn hi] at ki'
        by_cases q : n = i
        · subst q; rw [if_pos ⟨rfl, fun z => w z.symm⟩]; rw [if_pos rfl] at ki'; omega
        · rw [if_neg (fun z => q z.1)]; rw [if_neg q] at ki'; omega
theorem pos_of_sum : ∀ {l : List Int}, 0 < l.sum → ∃ k, k < l.length ∧ 0 < l.getD k 0
  | [], h => by simp at h
  | a :: l, h => by
    by_cases q : 0 < a
    · exact ⟨0, by simp, q⟩
    · rw [List.sum_cons] at h
      obtain ⟨k, hk, e⟩ := pos_of_sum (l := l) (by omega)
      exact ⟨k + 1, by simpa using hk, e⟩
theorem getD_le_sum : ∀ {l : List Int} {k : Nat}, (∀ n ∈ l, 0 ≤ n) → l.getD k 0 ≤ l.sum
  | [], _, _ => by simp
  | a :: l, 0, h => by
    have := sum_nn (ns := l) fun n hn => h n (by simp [hn])
    show a ≤ (a :: l).sum
    rw [List.sum_cons]; omega
  | a :: l, k + 1, h => by
    have := getD_le_sum (l := l) (k := k) fun n hn => h n (by simp [hn])
    have := h a (by simp)
    show l.getD k 0 ≤ (a :: l).sum
    rw [List.sum_cons]; omega
theorem St.lnn (h : St v S f) : ∀ n ∈ S.l, 0 ≤ n := fun n hn => by
  obtain ⟨k, hk, rfl⟩ := List.getElem_of_mem hn
  have := (h.ls (k : Int) (by have := h.ll; omega)).1
  unfold gI at this
  rw [Int.toNat_natCast, gd_lt hk] at this
  exact this
theorem St.enn (h : St v S f) : ∀ n ∈ S.e, 0 ≤ n := fun n hn => by
  obtain ⟨k, hk, rfl⟩ := List.getElem_of_mem hn
  have := (h.es (k : Int) (by have := h.el; omega)).1
  unfold gI at this
  rw [Int.toNat_natCast, gd_lt hk] at this
  exact this
theorem opt_ne (h : St v S (o :: f)) : optI S o ≠ [] := by
  have ho := h.rng o (by simp)
  have co := h.cs o ho
  have lo := h.ls o ho
  have cp : 0 < (o :: f).count o := by simp
  intro e
  by_cases q : gI S.l o < gI S.c o
  · have : o ∈ optI S o := (mem_opt h).mpr ⟨ho, by rw [if_pos rfl]; exact q⟩
    rw [e] at this
    cases this
  · have p : 0 < S.l.sum := by
      have := getD_le_sum (l := S.l) (k := o.toNat) h.lnn
      unfold gI at q lo co
      omega
    rw [h.sum] at p
    obtain ⟨k, hk, ek⟩ := pos_of_sum p
    have el := h.el
    have lo0 : gI S.l o ≠ 0 := by omega
    have eo := (h.es o ho).2
    have gk : 0 < gI S.e (k : Int) := by unfold gI; rw [Int.toNat_natCast]; exact ek
    have hk' : (k : Int) ≠ o := fun z => by rw [z] at gk; omega
    have : (k : Int) ∈ optI S o := (mem_opt h).mpr ⟨by omega, by rw [if_neg hk']; exact ⟨lo0, gk⟩⟩
    rw [e] at this
    cases this
theorem fit_nil (h : St v S []) : Fit v S [] [] := by
  have z : ∀ i, 0 ≤ i ∧ i < v → gI S.l i = 0 := fun i hi => by have := h.ls i hi; rw [List.count_nil] at this; omega
  have s0 : S.e.sum = 0 := by
    rw [← h.sum]
    refine Decidable.byContradiction fun hne => ?_
    have := sum_nn h.lnn
    obtain ⟨k, hk, ek⟩ := pos_of_sum (l := S.l) (by omega)
    have := z (k : Int) (by have := h.ll; omega)
    unfold gI at this
    rw [Int.toNat_natCast] at this
    omega
  refine ⟨rfl, fun _ q => (nomatch q), fun i hi => (z i hi).symm, fun i hi => ?_⟩
  have := getD_le_sum (l := S.e) (k := i.toNat) h.enn
  have := (h.es i hi).1
  show 0 = S.e.getD i.toNat 0
  unfold gI at *
  omega
/-- the first way -/
def firstI : S3 → List Int → List Int
  | _, [] => []
  | S, o :: f => (optI S o).headD 0 :: firstI (aftI S o ((optI S o).headD 0)) f
theorem head_mem (h : St v S (o :: f)) : (optI S o).headD 0 ∈ optI S o := by
  have := opt_ne h
  cases q : optI S o with
  | nil => exact absurd q this
  | cons a l => simp
theorem first_fit : ∀ {f : List Int} {S : S3}, St v S f → Fit v S f (firstI S f)
  | [], _, h => fit_nil h
  | o :: f, S, h => (fit_cons h).mpr ⟨head_mem h, first_fit (h.after (head_mem h))⟩
theorem first_len : ∀ {f : List Int} {S : S3}, (firstI S f).length = f.length
  | [], _ => rfl
  | o :: f, S => by simp [firstI, first_len (f := f)]
/-- a list comes before another, or is it -/
def lexLe : List Int → List Int → Prop
  | [], _ => True
  | _ :: _, [] => False
  | a :: as, b :: bs => a < b ∨ (a = b ∧ lexLe as bs)
theorem upI_pw (n : Nat) : (upI 0 n).Pairwise (· < ·) := by
  unfold upI
  rw [List.pairwise_map]
  refine List.pairwise_lt_range.imp fun {a b} h => ?_
  omega
theorem opt_sorted : (optI S o).Pairwise (· < ·) := by
  unfold optI
  split
  · exact List.pairwise_singleton ..
  · exact List.Pairwise.filter _ (upI_pw _)
theorem head_le {l : List Int} (h : l.Pairwise (· < ·)) : ∀ n ∈ l, l.headD 0 ≤ n := fun n hn => by
  cases l with
  | nil => cases hn
  | cons a l =>
    rcases List.mem_cons.mp hn with q | q
    · rw [q]; exact Int.le_refl _
    · exact Int.le_of_lt (List.rel_of_pairwise_cons h q)
theorem first_le : ∀ {f g : List Int} {S : S3}, St v S f → Fit v S f g → lexLe (firstI S f) g
  | [], _, _, _, _ => trivial
  | o :: f, [], S, h, k => by have := k.len; simp at this
  | o :: f, n :: g, S, h, k => by
    obtain ⟨hn, k2⟩ := (fit_cons h).mp k
    have := head_le opt_sorted n hn
    unfold firstI lexLe
    by_cases q : (optI S o).headD 0 = n
    · rw [q]
      exact .inr ⟨rfl, first_le (h.after hn) k2⟩
    · exact .inl (by omega)
/-! the state at the start -/
def s0I (v : Int) (f as : List Int) : S3 := ⟨countsI f v, lvI (countsI f v) as, enI (countsI f v) as⟩
variable {as : List Int}
theorem lv_get {cs as : List Int} (hl : cs.length = as.length) {j : Nat} (hj : j < cs.length) : (lvI cs as).getD j 0 = t0 (cs.getD j 0) (as.getD j 0) := by
  have h1 : j < (lvI cs as).length := by simp [lvI]; omega
  rw [gd_lt h1, gd_lt hj, gd_lt (by omega : j < as.length)]
  simp [lvI]
theorem en_get {cs as : List Int} (hl : cs.length = as.length) {j : Nat} (hj : j < cs.length) : (enI cs as).getD j 0 = t0 (as.getD j 0) (cs.getD j 0) := by
  have h1 : j < (enI cs as).length := by simp [enI]; omega
  rw [gd_lt h1, gd_lt hj, gd_lt (by omega : j < as.length)]
  simp [enI]
theorem st0 (hf : Asg f v) (ha : Alc as v f.length) (hv : 0 ≤ v) : St v (s0I v f as) f := by
  have hc := hf.alc hv
  have l := hc.lens ha
  have cl := hc.len
  have al := ha.len
  have z := zip_t0_sum l
  have ll : (lvI (countsI f v) as).length = (countsI f v).length := by simp [lvI]; omega
  have le : (enI (countsI f v) as).length = (countsI f v).length := by simp [enI]; omega
  have cg : ∀ i, 0 ≤ i ∧ i < v → gI (countsI f v) i = f.count i := fun i hi => by
    unfold gI
    rw [countsI_get (by omega), Int.toNat_of_nonneg hi.1]
  have lg : ∀ i, 0 ≤ i ∧ i < v → gI (lvI (countsI f v) as) i = t0 (f.count i) (gI as i) := fun i hi => by
    rw [← cg i hi]
    exact lv_get l (by omega)
  have eg : ∀ i, 0 ≤ i ∧ i < v → gI (enI (countsI f v) as) i = t0 (gI as i) (f.count i) := fun i hi => by
    rw [← cg i hi]
    exact en_get l (by omega)
  have an : ∀ i, 0 ≤ i ∧ i < v → 0 ≤ gI as i := fun i hi => ha.nn _ (gd_mem (by omega))
  refine ⟨cl, by show ((lvI (countsI f v) as).length : Int) = v; omega, by show ((enI (countsI f v) as).length : Int) = v; omega, cg, fun i hi => ?_, fun i hi => ?_, ?_, hf.rng⟩
  · have := an i hi
    show 0 ≤ gI (lvI (countsI f v) as) i ∧ gI (lvI (countsI f v) as) i ≤ _
    rw [lg i hi]
    unfold t0
    split <;> omega
  · show 0 ≤ gI (enI (countsI f v) as) i ∧ (gI (lvI (countsI f v) as) i = 0 ∨ gI (enI (countsI f v) as) i = 0)
    rw [lg i hi, eg i hi]
    unfold t0
    (repeat' split) <;> omega
  · show (lvI (countsI f v) as).sum = (enI (countsI f v) as).sum
    rw [z.1, z.2]
    have := zs_sub l
    have := hc.sum
    have := ha.sum
    omega
/-- the least changes -/
structure Lst (v : Int) (f as g : List Int) : Prop where
  asg : Asg g v
  len : g.length = f.length
  cnt : countsI g v = as
  chn : zs ne1 f g = trI (countsI f v) as
theorem fit_lst (hf : Asg f v) (ha : Alc as v f.length) (hv : 0 ≤ v) : Fit v (s0I v f as) f g ↔ Lst v f as g := by
  have hc := hf.alc hv
  have l := hc.lens ha
  have cl := hc.len
  have al := ha.len
  have cg : ∀ (f : List Int) i, 0 ≤ i ∧ i < v → gI (countsI f v) i = f.count i := fun f i hi => by
    unfold gI
    rw [countsI_get (by omega), Int.toNat_of_nonneg hi.1]
  have lg : ∀ i, 0 ≤ i ∧ i < v → gI (lvI (countsI f v) as) i = t0 (f.count i) (gI as i) := fun i hi => by
    rw [← cg f i hi]
    exact lv_get l (by omega)
  have eg : ∀ i, 0 ≤ i ∧ i < v → gI (enI (countsI f v) as) i = t0 (gI as i) (f.count i) := fun i hi => by
    rw [← cg f i hi]
    exact en_get l (by omega)
  have zr : ∀ p ∈ f.zip g, 0 ≤ p.1 ∧ p.1 < (v.toNat : Int) := fun p hp => by
    have := hf.rng _ (List.of_mem_zip hp).1
    omega
  have trs : trI (countsI f v) as = ((upI 0 v.toNat).map fun i => t0 (f.count i) (gI as i)).sum := by
    rw [trI_up l, countsI_len]
    congr 1
    apply List.map_congr_left
    intro i hi
    have r := mem_upI.mp hi
    have := cg f i (by omega)
    unfold gI at this
    rw [this]
  constructor
  · intro k
    have hl := k.len
    have hg : Asg g v := ⟨by rw [k.len]; exact hf.len, k.rng⟩
    refine ⟨hg, k.len, ?_, ?_⟩
    · apply List.ext_getElem
      · rw [countsI_len]; omega
      · intro j h1 h2
        have hj : (j : Int) < v := by rw [countsI_len] at h1; omega
        have e1 := countsI_get (ns := g) (v := v) (i := j) hj
        rw [gd_lt h1] at e1
        have d := count_diff (j : Int) (ns := f) (ms := g) hl.symm
        have ko := k.out (j : Int) (by omega)
        have ki := k.inn (j : Int) (by omega)
        have lj := lg (j : Int) (by omega)
        have ej := eg (j : Int) (by omega)
        have ko' : outI (j : Int) (f.zip g) = t0 (f.count (j : Int)) (gI as (j : Int)) := ko.trans lj
        have ki' : innI (j : Int) (f.zip g) = t0 (gI as (j : Int)) (f.count (j : Int)) := ki.trans ej
        have ga : gI as (j : Int) = as[j] := by unfold gI; rw [Int.toNat_natCast, gd_lt h2]
        rw [e1]
        unfold t0 at ko' ki'
        split at ko' <;> split at ki' <;> omega
    · rw [zs_neZ hl.symm, ← out_sum v.toNat zr, trs]
      congr 1
      apply List.map_congr_left
      intro i hi
      have r := mem_upI.mp hi
      exact (k.out i (by omega)).trans (lg i (by omega))
  · intro k
    have hl := k.len
    have hcnt : ∀ i, 0 ≤ i ∧ i < v → gI as i = g.count i := fun i hi => by rw [← k.cnt]; exact cg g i hi
    have le : ∀ i ∈ upI 0 v.toNat, t0 (f.count i) (gI as i) ≤ outI i (f.zip g) := fun i hi => by
      have r := mem_upI.mp hi
      have := count_diff i (ns := f) (ms := g) hl.symm
      have := out_nn i (f.zip g)
      have := inn_nn i (f.zip g)
      have := hcnt i (by omega)
      unfold t0
      split <;> omega
    have e := k.chn
    rw [zs_neZ hl.symm, ← out_sum v.toNat zr, trs] at e
    have all := (sum_eq_iff le).2.mp e
    refine ⟨hl, k.asg.rng, fun i hi => ?_, fun i hi => ?_⟩
    · exact (all i (mem_upI.mpr (by omega))).trans (lg i hi).symm
    · have e1 := all i (mem_upI.mpr (by omega))
      have := count_diff i (ns := f) (ms := g) hl.symm
      have c := hcnt i hi
      have e2 : gI (s0I v f as).e i = t0 (gI as i) (f.count i) := eg i hi
      rw [e2]
      unfold t0 at e1 ⊢
      (repeat' split at e1) <;> (repeat' split) <;> omega
end Lm


/-! the choices of a bucket; the order of all assignments -/
namespace Lm
open PySem PySem.Spec PyProof.Rows L2
variable {v o n : Int} {S : S3} {f g f1 f2 g1 g2 as : List Int}
theorem St.front (h : St v S (f1 ++ o :: f2)) : St v S (o :: (f1 ++ f2)) := by
  have e : ∀ i : Int, (o :: (f1 ++ f2)).count i = (f1 ++ o :: f2).count i := fun i => by
    rw [List.count_cons, List.count_append, List.count_append, List.count_cons]; omega
  refine ⟨h.cl, h.ll, h.el, fun i hi => by rw [e]; exact h.cs i hi, fun i hi => by rw [e]; exact h.ls i hi, h.es, h.sum, fun n hn => h.rng n ?_⟩
  simp only [List.mem_cons, List.mem_append] at hn ⊢
  rcases hn with a | a | a
  · exact .inr (.inl a)
  · exact .inl a
  · exact .inr (.inr a)
theorem split_b {l : List Int} {b : Nat} (hb : b < l.length) : l = l.take b ++ l.getD b 0 :: l.drop (b + 1) := by
  have e : l.drop b = l.getD b 0 :: l.drop (b + 1) := by rw [List.drop_eq_getElem_cons hb, gd_lt hb]
  rw [← e, List.take_append_drop]
theorem sorted_ext : ∀ {l1 l2 : List Int}, l1.Pairwise (· < ·) → l2.Pairwise (· < ·) → (∀ x, x ∈ l1 ↔ x ∈ l2) → l1 = l2
  | [], [], _, _, _ => rfl
  | [], b :: l2, _, _, h => by have := (h b).mpr (by simp); cases this
  | a :: l1, [], _, _, h => by have := (h a).mp (by simp); cases this
  | a :: l1, b :: l2, p1, p2, h => by
    obtain ⟨a1, q1⟩ := List.pairwise_cons.mp p1
    obtain ⟨a2, q2⟩ := List.pairwise_cons.mp p2
    have e : a = b := by
      rcases List.mem_cons.mp ((h a).mp (by simp)) with w | w
      · exact w
      · rcases List.mem_cons.mp ((h b).mpr (by simp)) with u | u
        · exact u.symm
        · have := a1 b u
          have := a2 a w
          omega
    subst e
    rw [sorted_ext q1 q2 fun x => ⟨fun hx => ?_, fun hx => ?_⟩]
    · rcases List.mem_cons.mp ((h x).mp (by simp [hx])) with w | w
      · have := a1 x hx; omega
      · exact w
    · rcases List.mem_cons.mp ((h x).mpr (by simp [hx])) with w | w
      · have := a2 x hx; omega
      · exact w
theorem sorted_lt {l l' : List Int} (hp : l'.Perm l) (hs : l'.Pairwise (· ≤ ·)) (hn : l.Nodup) : l'.Pairwise (· < ·) := by
  have hn' : l'.Nodup := hp.nodup_iff.mpr hn
  exact (hs.and hn').imp fun {a b} h => by have := h.1; have := h.2; omega
/-! the order of all assignments -/
def lexLt : List Int → List Int → Prop
  | a :: as, b :: bs => a < b ∨ (a = b ∧ lexLt as bs)
  | _, _ => False
theorem lexLt.le : ∀ {as bs : List Int}, lexLt as bs → lexLe as bs
  | [], _, _ => trivial
  | _ :: _, [], h => h.elim
  | a :: as, b :: bs, h => by
    unfold lexLt at h
    unfold lexLe
    rcases h with h | ⟨e, h⟩
    · exact .inl h
    · exact .inr ⟨e, h.le⟩
theorem lexLt_irr : ∀ {as : List Int}, ¬ lexLt as as
  | [], h => h.elim
  | a :: as, h => by
    unfold lexLt at h
    rcases h with h | ⟨_, h⟩
    · omega
    · exact lexLt_irr h
theorem lexLt_app {xs ys : List Int} : ∀ {as bs : List Int}, lexLt as bs → lexLt (as ++ xs) (bs ++ ys)
  | [], _, h => h.elim
  | _ :: _, [], h => h.elim
  | a :: as, b :: bs, h => by
    unfold lexLt at h
    show lexLt (a :: (as ++ xs)) (b :: (bs ++ ys))
    unfold lexLt
    rcases h with h | ⟨e, h⟩
    · exact .inl h
    · exact .inr ⟨e, lexLt_app h⟩
theorem lexLt_last {x y : Int} (h : x < y) : ∀ {as : List Int}, lexLt (as ++ [x]) (as ++ [y])
  | [] => .inl h
  | a :: as => .inr ⟨rfl, lexLt_last h⟩
end Lm


/-! lists put together; promises about states, choices, and the least changes gone through -/
namespace Lm
open PySem PySem.Spec PyProof.Rows L2
section
variable {c : Ct} {H H' H0 H1 H2 H3 : Hp} {O : List Addr} {Γ Γ' Γ1 : List (Option Rs)}
variable {te ta tb tx : TE} {k ka kb : Kd} {d x y z : PyData} {i j : Int} {ds es : List PyData}
theorem flatAll_app (h : flatAll ds = true) (g : flatAll es = true) : flatAll (ds ++ es) = true := flatAll_mem fun d hd => by
  rcases List.mem_append.mp hd with w | w
  · exact flatAll_one h w
  · exact flatAll_one g w
/-- xs + ys: a list of one's own and a new one -/
theorem e_catVO {n : Nat} (hx : Γ[n]? = some (some (.o (.list ds)))) (hds : flatAll ds = true) (hb : Ev c tb Γ .o (.list es)) (hes : flatAll es = true) (hl : ds.length + es.length ≤ 1000000) : Ev c (tOp (rAddA c.K) (tVar n) tb) Γ .o (.list (ds ++ es)) := fun H0 O H σ e Q q => by
  obtain ⟨v, fp, hv, f, nd, sub⟩ := e.slotO hx
  refine ⟨v, hv, hb H0 O H σ e _ fun u H2 r s => ?_⟩
  obtain ⟨v', fp', hv', f', nd', sub'⟩ := (e.on r).slotO hx
  have : v' = v := by rw [hv] at hv'; cases hv'; rfl
  subst this
  obtain ⟨p, xs, g, rfl, rfl, hp, fa⟩ := f'.list'
  obtain ⟨fq, fo, ndq, new⟩ := s
  obtain ⟨b, zs, g', rfl, rfl, hb', fb⟩ := fo.list'
  obtain ⟨_, al⟩ := fa.flat0 hds
  obtain ⟨_, bl⟩ := fb.flat0 hes
  refine .inr (.inr ⟨p, b, xs, zs, rfl, rfl, hp, hb', by rw [al.len, bl.len]; exact sizeOk hl, fun p' hp' => ?_⟩)
  have sm : Same H2 (upd H2 p' (.lst (xs ++ zs))) := fun b o z => by rw [upd_ne (ne_of_none z hp')]; exact z
  exact q _ _ (r.tr (Rr.same sm)) ⟨[p'], .lst upd_same (FoAll.leaves (flatAll_app hds hes) ((al.app bl).same sm)), by simp, fun a ha => by
    cases List.mem_singleton.mp ha
    exact r.back e.jH hp'⟩
theorem n_sortedD {ns ms : List Int} (h : Ev c te Γ k (.list (ns.map .int))) (hl : ns.length < 64) (hm : ∀ ns' : List Int, ns'.Perm ns → ns'.Pairwise (· ≤ ·) → ns' = ms) : Ev c (tCB (rSortedA c.K) (tCons te tNil)) Γ .o (.list (ms.map .int)) :=
  EvN.det ((n_sortedL h hl).imp fun d hd => by
    obtain ⟨ns', rfl, hp, hs⟩ := hd
    rw [hm ns' hp hs])
end
theorem i_rows {c : Ct} {Γ : List (Option Rs)} {tl : TE} {k : Kd} {l : List (List Int)} (h : Ev c tl Γ k (.list (l.map tupD))) (hk : k ≠ .b) : EvI c (iSeq c.K tl) Γ true (l.map tupI) := by
  have := i_seqL h hk
  rwa [List.map_map] at this
abbrev stD (S : S3) : PyData := .tuple [.tuple (S.c.map .int), .tuple (S.l.map .int), .tuple (S.e.map .int)]
def enL (es : List Int) : List Int := (es.zipIdx.filter fun p => decide (0 < p.1)).map fun p => ((p.2 : Nat) : Int)
theorem enL_pw (es : List Int) : (enL es).Pairwise (· < ·) := by
  unfold enL
  rw [List.pairwise_map]
  refine List.Pairwise.filter _ ?_
  have : (es.zipIdx.map Prod.snd).Pairwise (· < ·) := by
    rw [List.zipIdx_map_snd]
    exact List.pairwise_lt_range'
  rw [List.pairwise_map] at this
  exact this.imp fun {a b} h => by omega
theorem mem_enL {es : List Int} {x : Int} : x ∈ enL es ↔ (0 ≤ x ∧ x < es.length) ∧ 0 < gI es x := by
  unfold enL
  rw [List.mem_map]
  constructor
  · rintro ⟨p, hp, rfl⟩
    obtain ⟨h1, h2⟩ := List.mem_filter.mp hp
    have := List.mem_zipIdx' h1
    obtain ⟨hl, e⟩ := this
    have h2' := of_decide_eq_true h2
    refine ⟨⟨by omega, by omega⟩, ?_⟩
    unfold gI
    rw [Int.toNat_natCast, gd_lt hl, ← e]
    exact h2'
  · rintro ⟨⟨h1, h2⟩, h3⟩
    obtain ⟨j, rfl⟩ := Int.eq_ofNat_of_zero_le h1
    have hj : j < es.length := by omega
    unfold gI at h3
    rw [Int.toNat_natCast, gd_lt hj] at h3
    refine ⟨(es[j], j), List.mem_filter.mpr ⟨?_, by simpa using h3⟩, rfl⟩
    exact List.mem_zipIdx_iff_getElem?.mpr (List.getElem?_eq_getElem hj)
variable {v o n : Int} {S : S3} {f g as : List Int}
theorem opt_of_sorted (h : St v S (o :: f)) (q : gI S.l o ≠ 0) {ns' : List Int} {b : Bool} (hb : b = decide (gI S.l o < gI S.c o)) (hp : ns'.Perm (enL S.e ++ if b = true then [o] else [])) (hs : ns'.Pairwise (· ≤ ·)) : ns' = optI S o := by
  have ho := h.rng o (by simp)
  have e0 : gI S.e o = 0 := by rcases (h.es o ho).2 with w | w; exact absurd w q; exact w
  have el := h.el
  have nd : (enL S.e ++ if b = true then [o] else []).Nodup := by
    refine List.nodup_append.mpr ⟨(enL_pw _).imp fun {a b} h => by omega, by split <;> simp, fun a ha b' hb' => ?_⟩
    split at hb'
    · rw [List.mem_singleton.mp hb']
      intro w
      rw [w] at ha
      have := (mem_enL.mp ha).2
      omega
    · cases hb'
  refine sorted_ext (sorted_lt hp hs nd) opt_sorted fun x => ?_
  rw [hp.mem_iff, List.mem_append, mem_enL, mem_opt h, hb]
  by_cases w : x = o
  · subst w
    rw [if_pos rfl]
    constructor
    · rintro (h | h)
      · omega
      · split at h
        · rename_i h1
          exact ⟨ho, of_decide_eq_true h1⟩
        · cases h
    · rintro ⟨_, h⟩
      exact .inr (by rw [if_pos (decide_eq_true h)]; simp)
  · rw [if_neg w]
    constructor
    · rintro (h | h)
      · exact ⟨by omega, q, h.2⟩
      · split at h
        · exact absurd (List.mem_singleton.mp h) w
        · cases h
    · rintro ⟨h1, _, h2⟩
      exact .inl ⟨by omega, h2⟩
theorem St.at (h : St v S f) {b : Nat} (hb : b < f.length) : St v S (f.getD b 0 :: (f.take b ++ f.drop (b + 1))) := by
  have h' : St v S (f.take b ++ f.getD b 0 :: f.drop (b + 1)) := split_b hb ▸ h
  exact h'.front
def sp_options (K : PySem.W.Frag) : Sp := spD K fun ds k d => ∃ (S : S3) (v o : Int) (f : List Int), ds = [stD S, .int o] ∧ St v S (o :: f) ∧ v ≤ 5 ∧ k = .o ∧ d = .list ((optI S o).map .int)
theorem allL_small5 {n : Nat} (hv : v ≤ 5) (hn : n ≤ 6) : (allL v n).length ≤ 15625 := by
  rw [allL_len]
  exact Nat.le_trans (Nat.pow_le_pow_left (by omega : v.toNat ≤ 5) n) (Nat.pow_le_pow_right (by decide) hn)
end Lm


/-! list.index, list.count, in: over data; the first change and its promises -/
namespace L2
open PySem PySem.Spec PyProof.Rows
section
variable {X : Cx}
end
end L2
namespace Lm
open PySem PySem.Spec PyProof.Rows L2
section
variable {X : Cx} {K : PySem.W.Frag} (hK : X.K = K)
include hK
end
section
variable {c : Ct} {H H' H0 H1 H2 H3 : Hp} {O : List Addr} {Γ Γ' Γ1 : List (Option Rs)}
variable {te ta tb tx : TE} {tr : TA} {k ka kb : Kd} {d x y z : PyData} {i j : Int} {ds es : List PyData}
end
/-! promises -/
variable {v o n : Int} {S : S3} {f g as : List Int}
def sp_one_less (K : PySem.W.Frag) : Sp := spD K fun ds k d => ∃ (ns : List Int) (p : Int), ds = [.tuple (ns.map .int), .int p] ∧ 0 ≤ p ∧ p < ns.length ∧ ns.length ≤ 1000 ∧ k = .v ∧ d = .tuple ((lssI p ns).map .int)
def sp_state_after (K : PySem.W.Frag) : Sp := spD K fun ds k d => ∃ (S : S3) (v o n : Int) (f : List Int), ds = [stD S, .int o, .int n] ∧ St v S (o :: f) ∧ 0 ≤ n ∧ n < v ∧ v ≤ 5 ∧ k = .v ∧ d = stD (aftI S o n)
def sp_first_way (K : PySem.W.Frag) : Sp := spD K fun ds k d => ∃ (S : S3) (v : Int) (f : List Int), ds = [stD S, .tuple (f.map .int)] ∧ St v S f ∧ v ≤ 5 ∧ f.length ≤ 20 ∧ k = .v ∧ d = .tuple ((firstI S f).map .int)
theorem lss_app {p : Nat} {ns : List Int} (hp : p < ns.length) : ns.take p ++ [ns.getD p 0 - 1] ++ ns.drop (p + 1) = lssI p ns := by
  unfold lssI gI
  rw [Int.toNat_natCast, List.set_eq_take_append_cons_drop, if_pos hp]
  simp
theorem flat_st (S : S3) : flatD (stD S) = true := flat3 S.c S.l S.e
/-- the state before the n-th bucket on the first way -/
def wayS : S3 → List Int → Nat → S3
  | S, _, 0 => S
  | S, [], _ + 1 => S
  | S, o :: f, n + 1 => wayS (aftI S o ((optI S o).headD 0)) f n
theorem way_st : ∀ {f : List Int} {S : S3} {n : Nat}, St v S f → n ≤ f.length → St v (wayS S f n) (f.drop n)
  | [], _, 0, h, _ => h
  | _ :: _, _, 0, h, _ => h
  | [], _, _ + 1, _, hn => by simp at hn
  | o :: f, S, n + 1, h, hn => way_st (f := f) (h.after (head_mem h)) (by simpa using hn)
theorem way_next : ∀ {f : List Int} {S : S3} {n : Nat} (hn : n < f.length), wayS S f (n + 1) = aftI (wayS S f n) f[n] ((optI (wayS S f n) f[n]).headD 0)
  | [], _, _, hn => by simp at hn
  | o :: f, S, 0, _ => by
    show wayS _ f 0 = _
    cases f <;> rfl
  | o :: f, S, n + 1, hn => way_next (f := f) (by simpa using hn)
theorem way_first : ∀ {f : List Int} {S : S3} {n : Nat} (hn : n < f.length), (firstI S f).take (n + 1) = (firstI S f).take n ++ [(optI (wayS S f n) f[n]).headD 0]
  | [], _, _, hn => by simp at hn
  | o :: f, S, 0, _ => by simp [firstI, wayS]
  | o :: f, S, n + 1, hn => by
    have := way_first (f := f) (S := aftI S o ((optI S o).headD 0)) (n := n) (by simpa using hn)
    simp only [firstI, List.take_succ_cons, List.cons_append]
    rw [this]
    rfl
end Lm
namespace Lm
open PySem PySem.Spec PyProof.Rows L2
end Lm
namespace Lm
open PySem PySem.Spec PyProof.Rows L2
variable {c : Ct} {Γ : List (Option Rs)} {ta tb : TE} {ka kb : Kd}
end Lm


/-! what lies between; all allocations; bridges -/
namespace Lm
open PySem PySem.Spec PyProof.Rows L2
variable {v b : Int} {f g h m x y : List Int}
/-! all allocations -/
theorem pw_nodup {l : List (List Int)} (h : l.Pairwise lexLt) : l.Nodup := by
  refine List.Pairwise.imp (fun {a b} h => ?_) h
  intro e
  rw [e] at h
  exact lexLt_irr h
end Lm


/-! all ways on from a state, in order, and their number -/
namespace Lm
open PySem PySem.Spec PyProof.Rows L2
variable {v o n : Int} {S : S3} {f g : List Int}
def waysS (S : S3) : Nat := waysN S.c S.l S.e
end Lm


/-! all ways on: by number, their numbers, the next one -/
namespace Lm
open PySem PySem.Spec PyProof.Rows L2
variable {v o n : Int} {S : S3} {f g : List Int}
/-! by number -/
def pickI (S : S3) (o : Int) : List Int → Nat → Int × Nat
  | [], i => (0, i)
  | n :: ns, i => if i < waysS (aftI S o n) then (n, i) else pickI S o ns (i - waysS (aftI S o n))
/-! the number -/
/-! the next one -/
theorem sum_le_pt : ∀ {as bs : List Int}, as.length = bs.length → (∀ j, j < as.length → as.getD j 0 ≤ bs.getD j 0) → as.sum ≤ bs.sum
  | [], [], _, _ => Int.le_refl _
  | a :: as, b :: bs, hl, h => by
    have h0 := h 0 (by simp)
    have := sum_le_pt (as := as) (bs := bs) (by simpa using hl) fun j hj => h (j + 1) (by simpa using hj)
    rw [List.sum_cons, List.sum_cons]
    have h0' : a ≤ b := h0
    omega
  | [], _ :: _, h, _ => by simp at h
  | _ :: _, [], h, _ => by simp at h
theorem St.ok (h : St v S f) (h20 : f.length ≤ 20) (h5 : v ≤ 5) : StOk S.c S.l S.e := by
  have cl := h.cl
  have ll := h.ll
  have el := h.el
  have cg : ∀ j, j < S.c.length → S.c.getD j 0 = f.count (j : Int) := fun j hj => by
    have := h.cs (j : Int) (by omega)
    unfold gI at this
    rwa [Int.toNat_natCast] at this
  have cs : S.c.sum = f.length := by
    have e : S.c = (upI 0 v.toNat).map fun i => (f.count i : Int) := by
      apply List.ext_getElem
      · simp [upI]; omega
      · intro i h1 h2
        have := cg i h1
        rw [gd_lt h1] at this
        rw [this]
        simp [upI]
    rw [e]
    exact count_sum v.toNat f fun n hn => by have := h.rng n hn; omega
  refine ⟨by omega, by omega, by omega, fun p hp => ?_, h.enn, ?_⟩
  · obtain ⟨i, hi, rfl⟩ := List.getElem_of_mem hp
    have i1 : i < S.c.length := by simp at hi; omega
    have i2 : i < S.l.length := by omega
    rw [List.getElem_zip]
    have a1 := cg i i1
    have a2 := h.ls (i : Int) (by omega)
    unfold gI at a2
    rw [Int.toNat_natCast, gd_lt i2] at a2
    rw [gd_lt i1] at a1
    have a3 : f.count (i : Int) ≤ f.length := List.count_le_length
    show 0 ≤ S.l[i] ∧ S.l[i] ≤ S.c[i] ∧ S.c[i] ≤ 20
    omega
  · rw [← h.sum]
    have := sum_le_pt (as := S.l) (bs := S.c) (by omega) fun j hj => by
      have a2 := h.ls (j : Int) (by omega)
      unfold gI at a2
      rw [Int.toNat_natCast] at a2
      have := cg j (by omega)
      omega
    omega
end Lm


/-! promises: by number, the number, the next one -/
namespace Lm
open PySem PySem.Spec PyProof.Rows L2
section
variable {X : Cx} {K : PySem.W.Frag} (hK : X.K = K)
include hK
theorem k_tru {e : Expr} {ta : TE} (ha : PE X e ta) (he : ∀ whole, isTrue e X.env whole = (do let v ← whole; standAt e.pos; holding [v] (truthy v)) := by intro _; rfl) : PT X e (fun σ H Q => ta σ H fun x H' => ∃ k, TruV K x H' k ∧ Q k H') := hK ▸ pt_truth ha he
end
section
variable {c : Ct} {Γ Γ' Γ1 : List (Option Rs)} {te ta tb : TE} {tr : TA} {u : TS} {k ka kb : Kd} {P : Out → Prop}
theorem t_truL {ds : List PyData} (h : Ev c te Γ k (.list ds)) : EvT c (fun σ H Q => te σ H fun x H' => ∃ k, TruV c.K x H' k ∧ Q k H') Γ (!ds.isEmpty) := fun H0 O H σ e Q q =>
  h H0 O H σ e _ fun v H1 r s => by
    obtain ⟨p, xs, rfl, ok, sq, al⟩ := (Res.bo e s).lst'
    refine ⟨!xs.isEmpty, .inl ⟨xs, sq, rfl⟩, ?_⟩
    have : xs.isEmpty = ds.isEmpty := by
      have := al.len
      cases xs <;> cases ds <;> simp_all
    rw [this]
    exact q H1 r
end
variable {v o n : Int} {S : S3} {f g as : List Int}
/-! the states on the way by number -/
def nS : S3 → List Int → Nat → Nat → S3 × Nat
  | S, o :: f, i, n + 1 => nS (aftI S o (pickI S o (optI S o) i).1) f (pickI S o (optI S o) i).2 n
  | S, _, i, _ => (S, i)
end Lm


/-! list(zip(a, b)), a and b tuples -/
namespace PySem.F
theorem zip_no_len : typeLookup (.type "zip") "__len__" = pure none := by rw [typeLookup_type, builtinLookup_eq_fast]; kernel_rfl
theorem zip_no_hint : typeLookup (.type "zip") "__length_hint__" = pure none := by rw [typeLookup_type, builtinLookup_eq_fast]; kernel_rfl
end PySem.F
namespace Lm
open PySem PySem.Spec PyProof.Rows L2
section
variable {prog : Program} {w : World} {A : Around} {E : Value → Shared → Prop} {s : Shared}
/-- next(z) -/
theorem pyNext_zip {z TI TO : Addr} {x : Value} {b : Bool} {Q : Option Value → Shared → Prop} (hz : IsZipX s.heap z TI TO x b)
    (h : ∀ E' : Value → Shared → Prop, wpAny (model prog w) A.in1 (Builtin.«zip.__next__» ⟨[.ref z], []⟩) (fun fin s' => ∃ v, fin = .done (.ret v) ∧ Q (some v) s') E' s) : wpAny (model prog w) A (pyNext (.ref z)) Q E s := by
  have hT : s.TypeIs (.ref z) "zip" := ⟨_, hz, rfl⟩
  unfold pyNext
  refine wpAny_bind (wpAny_attempt (wpAny_callSpecial?_slot (name := Str.ofString "__next__") hT F.slot_zip_next
    (wpAny_call_entry F.slot_zip_next hT F.entry_zip_next ?_ (F.args_zip_next_1 _))))
  refine wpAny_mono (h _) (fun fin s' ⟨v, e, q⟩ => ?_) fun _ _ y => y
  subst e
  exact ⟨v, rfl, wpAny_pure q⟩
theorem pyNext_zip_end {z TI TO i1 i2 : Addr} {x : Value} {b : Bool} {fp1 fp2 : List Addr} {n1 : Nat} {P1 : Nat → Value → Prop} {St1 : Nat → Heap → Prop} {Q : Option Value → Shared → Prop}
    (S : ZipSep2 z TI TO i1 i2 fp1 fp2) (D1 : ∀ A' : Around, A'.handled = none → Draws prog w A' i1 fp1 n1 P1 St1) (hh : A.handled = none) (hz : IsZipX s.heap z TI TO x b) (hx : x = .none ∨ ∃ T : Addr, x = rawInt T) (hTI : IsTupOf2 s.heap TI (.ref i1) (.ref i2)) (st1 : St1 n1 s.heap)
    (hQ : ∀ h', (∀ c o, c ≠ z → c ≠ i1 → s.heap.get? c = some o → h'.get? c = some o) → Q none { s with heap := h' }) : wpAny (model prog w) A (pyNext (.ref z)) Q E s := by
  have hT : s.TypeIs (.ref z) "zip" := ⟨_, hz, rfl⟩
  unfold pyNext
  refine wpAny_bind (wpAny_attempt (wpAny_callSpecial?_slot (name := Str.ofString "__next__") hT F.slot_zip_next
    (wpAny_call_entry F.slot_zip_next hT F.entry_zip_next ?_ (F.args_zip_next_1 _))))
  refine zipX_end S (D1 _ hh) hz hx hTI st1 fun h' x' he' hx' => ?_
  obtain ⟨o, ho, hc⟩ := hx'
  refine wpAny_bind (wpAny_isInstance (T := "StopIteration") (b := true) ⟨o, ho, hc⟩ isSubtype_stop ?_)
  exact wpAny_pure (hQ _ he')
/-- zip at its end: the first iterator goes on, the second has ended -/
theorem zipX_end2 {z TI TO i1 i2 : Addr} {fp1 fp2 : List Addr} {n1 n2 i : Nat} {P1 P2 : Nat → Value → Prop} {St1 St2 : Nat → Heap → Prop} {a1 a2 x : Value} {b : Bool} {Q : Fin → Shared → Prop} (S : ZipSep2 z TI TO i1 i2 fp1 fp2) (D1 : Draws prog w A i1 fp1 n1 P1 St1) (D2 : Draws prog w A i2 fp2 n2 P2 St2)
    (hz : IsZipX s.heap z TI TO x b) (hx : x = .none ∨ ∃ T : Addr, x = rawInt T) (hTI : IsTupOf2 s.heap TI (.ref i1) (.ref i2)) (hTO : IsTupOf2 s.heap TO a1 a2) (st1 : St1 i s.heap) (st2 : St2 n2 s.heap) (hlt1 : i < n1)
    (hE : ∀ h' tk e, (∀ c o, c ≠ z → c ≠ TO → c ≠ i1 → c ≠ i2 → s.heap.get? c = some o → h'.get? c = some o) → (∃ o, h'.get? e = some o ∧ o.cls = .type "StopIteration") → E (.ref e) { s with heap := h', toks := tk }) :
    wpAny (model prog w) A (Builtin.«zip.__next__» ⟨[.ref z], []⟩) Q E s := by
  obtain ⟨hp, g, d, tk0, os⟩ := s
  show wpAny _ _ (field (.ref z) 2 >>= _) _ _ _
  refine wpAny_bind (wpAny_field hz rfl (x := .bool false) rfl ?_)
  show wpAny _ _ (field (.ref z) 3 >>= _) _ _ _
  refine wpAny_bind (wpAny_field hz rfl (x := .ref TI) rfl ?_)
  refine wpAny_bind (wpAny_seqItems hTI rfl ?_)
  show wpAny _ _ (Builtin.SmallTypes.ownedTupleIsFree (.ref z) >>= _) _ _ _
  refine wpAny_bind (zipX_free hz hx ?_ fun g0 hz0 hs0 => ?_)
  · simp only [if_true]
    refine wpAny_bind (wpAny_rule (wpAny_bind (wpAny_field hz rfl (x := .ref TO) rfl ?_)))
    refine wpAny_bind (wpAny_setField_rec hz (by simp) fun g0 hz0 hs0 => ?_)
    replace hz0 : IsZipX g0 z TI TO .ellipsis b := hz0
    replace hs0 : Heap.SameBut z hp g0 := hs0
    refine wpAny_bind ?_
    simp only [List.zipIdx_cons, List.zipIdx_nil, List.forIn_cons, List.forIn_nil]
    refine wpAny_bind (wpAny_bind (wpAny_onRaise ?_))
    show wpAny _ _ (Builtin.SmallTypes.nextOf (.ref i1) >>= _) _ _ ⟨g0, g, d, tk0, os⟩
    refine wpAny_bind (D1.item i _ _ _ hlt1 (D1.over st1 hs0 S.zf1) fun x1 p1 tk1 hx1 sn1 hp1 => wpAny_pure ?_)
    replace hp1 : Heap.SameBut i1 g0 p1 := hp1
    have hU1 : IsTupOf2 p1 TO a1 a2 := hp1.extBut _ _ S.Ti1 (hs0.extBut _ _ S.TOz hTO)
    refine wpAny_bind (wpAny_seqItems (s := ⟨p1, g, d, tk1, os⟩) hU1 rfl ?_)
    refine wpAny_bind (updateSeq_IsTupOf2 (s := ⟨p1, g, d, tk1, os⟩) hU1 fun g1 hT1 hs1 => ?_)
    replace hT1 : IsTupOf2 g1 TO x1 a2 := hT1
    replace hs1 : Heap.SameBut TO p1 g1 := hs1
    refine wpAny_bind (wpAny_letGo (wpAny_pure ?_))
    refine wpAny_bind (wpAny_bind (wpAny_onRaise ?_))
    show wpAny _ _ (Builtin.SmallTypes.nextOf (.ref i2) >>= _) _ _ ⟨g1, g, d, tk1, os⟩
    refine wpAny_bind (D2.done ⟨g1, g, d, tk1, os⟩ _ _ (D2.over (D2.over (D2.over st2 hs0 S.zf2) hp1 S.sep1_2) hs1 S.Tf2) fun q e hq he => ?_)
    replace hq : Heap.ExtBut i2 g1 q := hq
    obtain ⟨oe, hoe, hce⟩ := he
    replace hoe : q.get? e = some oe := hoe
    have hz1 : IsZipX g1 z TI TO .ellipsis b := hs1.extBut _ _ S.TOz.symm (hp1.extBut _ _ S.zi1 hz0)
    have hzq : IsZipX q z TI TO .ellipsis b := hq _ _ S.zi2 hz1
    have hez : e ≠ z := fun y => by subst y; rw [hzq] at hoe; cases hoe; simp at hce
    refine wpAny_setField_rec (s := ⟨q, g, d, tk1, os⟩) hzq (by simp) fun q' _ hq' => ?_
    replace hq' : Heap.SameBut z q q' := hq'
    exact hE q' tk1 e (fun c o cz cT c1 c2 y => hq'.extBut _ _ cz (hq _ _ c2 (hs1.extBut _ _ cT (hp1.extBut _ _ c1 (hs0.extBut _ _ cz y))))) ⟨oe, hq'.extBut _ _ hez hoe, hce⟩
  · replace hs0 : Heap.SameBut z hp g0 := hs0
    simp only [Bool.false_eq_true, if_false]
    refine wpAny_bind ?_
    rw [← Array.forIn_toList]
    simp only [List.forIn_cons, List.forIn_nil]
    refine wpAny_bind (wpAny_bind (wpAny_holding ?_))
    show wpAny _ _ (Builtin.SmallTypes.nextOf (.ref i1) >>= _) _ _ ⟨g0, g, d, tk0, os⟩
    refine wpAny_bind (D1.item i _ _ _ hlt1 (D1.over st1 hs0 S.zf1) fun x1 p1 tk1 hx1 sn1 hp1 => wpAny_pure ?_)
    replace hp1 : Heap.SameBut i1 g0 p1 := hp1
    refine wpAny_pure ?_
    refine wpAny_bind (wpAny_bind (wpAny_holding ?_))
    show wpAny _ _ (Builtin.SmallTypes.nextOf (.ref i2) >>= _) _ _ ⟨p1, g, d, tk1, os⟩
    refine wpAny_bind (D2.done ⟨p1, g, d, tk1, os⟩ _ _ (D2.over (D2.over st2 hs0 S.zf2) hp1 S.sep1_2) fun q e hq he => ?_)
    replace hq : Heap.ExtBut i2 p1 q := hq
    exact hE q tk1 e (fun c o cz _ c1 c2 y => hq _ _ c2 (hp1.extBut _ _ c1 (hs0.extBut _ _ cz y))) he
theorem pyNext_zip_end2 {z TI TO i1 i2 : Addr} {x a1 a2 : Value} {b : Bool} {fp1 fp2 : List Addr} {n1 n2 i : Nat} {P1 P2 : Nat → Value → Prop} {St1 St2 : Nat → Heap → Prop} {Q : Option Value → Shared → Prop}
    (S : ZipSep2 z TI TO i1 i2 fp1 fp2) (D1 : ∀ A' : Around, A'.handled = none → Draws prog w A' i1 fp1 n1 P1 St1) (D2 : ∀ A' : Around, A'.handled = none → Draws prog w A' i2 fp2 n2 P2 St2) (hh : A.handled = none) (hz : IsZipX s.heap z TI TO x b) (hx : x = .none ∨ ∃ T : Addr, x = rawInt T) (hTI : IsTupOf2 s.heap TI (.ref i1) (.ref i2)) (hTO : IsTupOf2 s.heap TO a1 a2) (st1 : St1 i s.heap) (st2 : St2 n2 s.heap) (hlt1 : i < n1)
    (hQ : ∀ h' tk, (∀ c o, c ≠ z → c ≠ TO → c ≠ i1 → c ≠ i2 → s.heap.get? c = some o → h'.get? c = some o) → Q none { s with heap := h', toks := tk }) : wpAny (model prog w) A (pyNext (.ref z)) Q E s := by
  have hT : s.TypeIs (.ref z) "zip" := ⟨_, hz, rfl⟩
  unfold pyNext
  refine wpAny_bind (wpAny_attempt (wpAny_callSpecial?_slot (name := Str.ofString "__next__") hT F.slot_zip_next
    (wpAny_call_entry F.slot_zip_next hT F.entry_zip_next ?_ (F.args_zip_next_1 _))))
  refine zipX_end2 S (D1 _ hh) (D2 _ hh) hz hx hTI hTO st1 st2 hlt1 fun h' tk x' he' hx' => ?_
  obtain ⟨o, ho, hc⟩ := hx'
  refine wpAny_bind (wpAny_isInstance (T := "StopIteration") (b := true) ⟨o, ho, hc⟩ isSubtype_stop ?_)
  exact wpAny_pure (hQ _ _ he')
end
/-- a zip at its i-th turn -/
def ZAt (St1 St2 : Nat → Heap → Prop) (h : Heap) (z TI TO i1 i2 : Addr) (i : Nat) : Prop :=
  (∃ x bb, IsZipX h z TI TO x bb ∧ (x = .none ∨ ∃ T : Addr, x = rawInt T)) ∧ IsTupOf2 h TI (.ref i1) (.ref i2) ∧ (∃ a1 a2, IsTupOf2 h TO a1 a2) ∧ St1 i h ∧ St2 i h
theorem ZAt.at {St1 St2 : Nat → Heap → Prop} {h h' : Heap} {z TI TO i1 i2 a b : Addr} {i : Nat} (x : ZAt St1 St2 h z TI TO i1 i2 i) (f1 : (∀ c ∈ [i1, a], ∀ o, h.get? c = some o → h'.get? c = some o) → St1 i h → St1 i h') (f2 : (∀ c ∈ [i2, b], ∀ o, h.get? c = some o → h'.get? c = some o) → St2 i h → St2 i h') (k : ∀ c ∈ [z, TI, TO, i1, i2, a, b], ∀ o, h.get? c = some o → h'.get? c = some o) : ZAt St1 St2 h' z TI TO i1 i2 i := by
  obtain ⟨⟨x, bb, hz, hx⟩, hTI, ⟨a1, a2, hTO⟩, h1, h2⟩ := x
  exact ⟨⟨x, bb, k z (by simp) _ hz, hx⟩, k TI (by simp) _ hTI, ⟨a1, a2, k TO (by simp) _ hTO⟩, f1 (fun c hc => k c (by simp at hc ⊢; rcases hc with q | q <;> simp [q])) h1, f2 (fun c hc => k c (by simp at hc ⊢; rcases hc with q | q <;> simp [q])) h2⟩
/-- the tuples given out so far -/
def ZOut (h : Heap) (n0 : Nat) (its its2 : Array Value) (ts : List Addr) : Prop :=
  ts.Pairwise (· < ·) ∧ ∀ (j : Nat) (t : Addr), ts[j]? = some t → n0 ≤ t ∧ ∃ x y, its[j]? = some x ∧ its2[j]? = some y ∧ IsTupOf2 h t x y
section
variable {prog : Program} {w : World} {A : Around} {R : Result → Shared → Prop}
theorem zip_loop {z TI TO i1 i2 a b S : Addr} {its its2 : Array Value} {n0 : Nat} {St1 St2 : Nat → Heap → Prop} (Sep : ZipSep2 z TI TO i1 i2 [i1, a] [i2, b]) (D1 : ∀ A' : Around, A'.handled = none → Draws prog w A' i1 [i1, a] its.size (fun i v => its[i]? = some v) St1) (D2 : ∀ A' : Around, A'.handled = none → Draws prog w A' i2 [i2, b] its2.size (fun i v => its2[i]? = some v) St2) (hS : S ∉ [z, TI, TO, i1, i2, a, b]) (hlow : ∀ c ∈ [z, TI, TO, i1, i2, a, b, S], c < n0) (hl : its2.size = its.size ∨ its2.size + 1 = its.size) (hn : its.size ≤ sizeLine) (hh : A.handled = none) (res : Value) :
    ∀ (k i : Nat) (s : Shared) (acc : Array Value) (c : Nat) (ts : List Addr), its2.size - i = k → i ≤ its2.size → ZAt St1 St2 s.heap z TI TO i1 i2 i → s.heap.get? S = some { cls := .type "list", dict := none, data := .seq acc c, slots := #[] } → acc.toList = ts.map Value.ref → ts.length = i → ZOut s.heap n0 its its2 ts → n0 ≤ s.heap.objs.size →
    (∀ h' tk acc' c' ts', (∀ c o, c ∉ [z, TO, i1, i2, S] → s.heap.get? c = some o → h'.get? c = some o) → h'.get? S = some { cls := .type "list", dict := none, data := .seq acc' c', slots := #[] } → acc'.toList = ts'.map Value.ref → ts'.length = its2.size → ZOut h' n0 its its2 ts' → R (.ok (.ret res)) { s with heap := h', toks := tk }) →
    codeAny (model prog w) A (.builtin "list.extend.loop" ⟨[.ref S, .ref z, res], []⟩) R s := by
  intro k
  induction k with
  | zero =>
    intro i s acc c ts hk hi hst hSl hacc hts hout hn0 hR
    have hin : i = its2.size := by omega
    obtain ⟨⟨x0, bb, hz, hx0⟩, hTI, ⟨a1, a2, hTO⟩, h1, h2⟩ := hst
    refine codeAny_builtin F.entry_extend_loop ?_
    rw [Around.under_plainId F.plain_extend_loop _]
    show wpAny _ A.in1 (pyNext (.ref z) >>= _) _ _ s
    have hSz : S ≠ z := fun q => hS (by simp [q])
    have hS1 : S ≠ i1 := fun q => hS (by simp [q])
    have fin : ∀ h' tk, (∀ c o, c ≠ z → c ≠ TO → c ≠ i1 → c ≠ i2 → s.heap.get? c = some o → h'.get? c = some o) → R (.ok (.ret res)) { s with heap := h', toks := tk } := fun h' tk hk' => by
      refine hR h' tk acc c ts (fun c o hc e => hk' c o (fun q => hc (by simp [q])) (fun q => hc (by simp [q])) (fun q => hc (by simp [q])) (fun q => hc (by simp [q])) e) (hk' S _ hSz (fun q => hS (by simp [q])) hS1 (fun q => hS (by simp [q])) hSl) hacc (by omega) ⟨hout.1, fun j t ht => ?_⟩
      obtain ⟨g1, x, y, gx, gy, gt⟩ := hout.2 j t ht
      have nt : ∀ c ∈ [z, TI, TO, i1, i2, a, b, S], t ≠ c := fun c hc q => by
        have := hlow c hc
        rw [q] at g1
        exact absurd g1 (Nat.not_le.mpr this)
      exact ⟨g1, x, y, gx, gy, hk' t _ (nt z (by simp)) (nt TO (by simp)) (nt i1 (by simp)) (nt i2 (by simp)) gt⟩
    by_cases hq : its2.size = its.size
    · exact wpAny_bind (pyNext_zip_end (n1 := its.size) Sep D1 hh hz hx0 hTI (by rw [← hq, ← hin]; exact h1) fun h' hk' => wpAny_pure (fin h' s.toks fun c o c1 _ c3 _ e => hk' c o c1 c3 e))
    · exact wpAny_bind (pyNext_zip_end2 (i := i) (n2 := its2.size) Sep D1 D2 hh hz hx0 hTI hTO h1 (by rw [← hin]; exact h2) (by omega) fun h' tk hk' => wpAny_pure (fin h' tk hk'))
  | succ k ih =>
    intro i s acc c ts hk hi hst hSl hacc hts hout hn0 hR
    have hlt2 : i < its2.size := by omega
    have hlt : i < its.size := by omega
    obtain ⟨⟨x0, bb, hz, hx0⟩, hTI, ⟨a1, a2, hTO⟩, h1, h2⟩ := hst
    refine codeAny_builtin F.entry_extend_loop ?_
    rw [Around.under_plainId F.plain_extend_loop _]
    show wpAny _ A.in1 (pyNext (.ref z) >>= _) _ _ s
    have nS : ∀ c ∈ [z, TI, TO, i1, i2, a, b], S ≠ c := fun c hc q => hS (q ▸ hc)
    refine wpAny_bind (pyNext_zip hz fun E' => zipX_item Sep (D1 _ (by exact hh)) (D2 _ (by exact hh)) hz hx0 hTI hTO h1 h2 hlt (by omega) fun v1 v2 g1 tk x' b' hv1 hv2 hz' hx' hTO' s1' s2' hT hsz hk' => ?_)
    have hS1 : g1.get? S = some { cls := .type "list", dict := none, data := .seq acc c, slots := #[] } := hk' S _ (nS z (by simp)) (nS TO (by simp)) (nS i1 (by simp)) (nS i2 (by simp)) hSl
    have lowS : S < n0 := hlow S (by simp)
    show wpAny _ A.in1 (updateSeq S (·.push (Value.ref s.heap.objs.size)) >>= _) _ _ _
    refine wpAny_bind ?_
    have asz : acc.size = i := by have := congrArg List.length hacc; simp at this; omega
    have hTI' : IsTupOf2 g1 TI (.ref i1) (.ref i2) := hk' _ _ Sep.TIz Sep.TITO Sep.TIi1 Sep.TIi2 hTI
    have up : ∀ c o, c ≠ S → g1.get? c = some o → (g1.update S (Obj.mapSeq (·.push (Value.ref s.heap.objs.size)))).get? c = some o := fun c o hc e => (Heap.get?_update_other _ _ (fun q => hc q.symm)).trans e
    refine wpAny_updateSeq hS1 rfl (wpAny_pure ⟨plainId_quiet F.plain_extend_loop _, ih (i + 1) _ (acc.push (Value.ref s.heap.objs.size)) _ (ts ++ [s.heap.objs.size]) (by omega) hlt2 ?_ (Heap.get?_update_self _ hS1 rfl) (by simp [hacc]) (by simp [hts]) ?_ ?_ fun h' tk' acc' c' ts' f1 f2 f3 f4 f5 => ?_⟩)
      (by rw [asz]; omega) (by show (acc.push _).size ≤ sizeLine + 1; rw [Array.size_push, asz]; omega)
    · refine ZAt.at (h := g1) (a := a) (b := b) ⟨⟨x', b', hz', hx'⟩, hTI', hTO', s1', s2'⟩ (fun k s => (D1 A hh).frame _ _ _ s k) (fun k s => (D2 A hh).frame _ _ _ s k) fun c hc o e => up c o (fun q => ?_) e
      exact hS (q ▸ hc)
    · refine ⟨List.pairwise_append.mpr ⟨hout.1, List.pairwise_singleton .., fun t ht u hu => ?_⟩, fun j t ht => ?_⟩
      · rw [List.mem_singleton.mp hu]
        obtain ⟨j, hj⟩ := List.getElem?_of_mem ht
        obtain ⟨_, x, y, _, _, gt⟩ := hout.2 j t hj
        exact Heap.lt_size gt
      · by_cases q : j < ts.length
        · rw [List.getElem?_append_left q] at ht
          obtain ⟨g2, x, y, gx, gy, gt⟩ := hout.2 j t ht
          have nt : ∀ c ∈ [z, TI, TO, i1, i2, a, b, S], t ≠ c := fun c hc q => by
            have := hlow c hc
            rw [q] at g2
            exact absurd g2 (Nat.not_le.mpr this)
          exact ⟨g2, x, y, gx, gy, up _ _ (nt S (by simp)) (hk' t _ (nt z (by simp)) (nt TO (by simp)) (nt i1 (by simp)) (nt i2 (by simp)) gt)⟩
        · rw [List.getElem?_append_right (by omega)] at ht
          have hj : j = ts.length := by
            have := (List.getElem?_eq_some_iff.mp ht).1
            simp at this
            omega
          rw [hj, Nat.sub_self] at ht
          have et : s.heap.objs.size = t := Option.some.inj ht
          refine ⟨by rw [← et]; exact hn0, v1, v2, ?_, ?_, ?_⟩
          · rw [hj, hts]; exact hv1
          · rw [hj, hts]; exact hv2
          · rw [← et]
            refine up _ _ (fun q => ?_) hT
            rw [← q] at lowS
            exact absurd hn0 (Nat.not_le.mpr lowS)
    · show n0 ≤ (g1.update S _).objs.size
      rw [Heap.size_update, hsz]
      omega
    · refine hR h' tk' acc' c' ts' (fun c o hc e => f1 c o hc (up c o (fun q => hc (by simp [q])) (hk' c o (fun q => hc (by simp [q])) (fun q => hc (by simp [q])) (fun q => hc (by simp [q])) (fun q => hc (by simp [q])) e))) f2 f3 f4 f5
/-- what list(z) leaves -/
def ZDone (h h' : Heap) (z TO i1 i2 S : Addr) (n0 : Nat) (its its2 : Array Value) : Prop :=
  (∀ c o, c ∉ [z, TO, i1, i2, S] → h.get? c = some o → h'.get? c = some o) ∧ ∃ acc' c' ts', h'.get? S = some { cls := .type "list", dict := none, data := .seq acc' c', slots := #[] } ∧ acc'.toList = ts'.map Value.ref ∧ ts'.length = its2.size ∧ ZOut h' n0 its its2 ts'
theorem zip_extend {s : Shared} {z TI TO i1 i2 a b S : Addr} {f0 : Value} {its its2 : Array Value} {n0 : Nat} {St1 St2 : Nat → Heap → Prop} (Sep : ZipSep2 z TI TO i1 i2 [i1, a] [i2, b]) (D1 : ∀ A' : Around, A'.handled = none → Draws prog w A' i1 [i1, a] its.size (fun i v => its[i]? = some v) St1) (D2 : ∀ A' : Around, A'.handled = none → Draws prog w A' i2 [i2, b] its2.size (fun i v => its2[i]? = some v) St2) (hS : S ∉ [z, TI, TO, i1, i2, a, b]) (hlow : ∀ c ∈ [z, TI, TO, i1, i2, a, b, S], c < n0) (hl : its2.size = its.size ∨ its2.size + 1 = its.size) (hn : its.size ≤ sizeLine) (hh : A.handled = none) (res : Value) (c₀ : Nat)
    (hz : IsZip s.heap z TI TO f0) (hst : ZAt St1 St2 s.heap z TI TO i1 i2 0) (hSl : s.heap.get? S = some { cls := .type "list", data := .seq #[] c₀ }) (hn0 : n0 ≤ s.heap.objs.size)
    (hR : ∀ h' tk, ZDone s.heap h' z TO i1 i2 S n0 its its2 → R (.ok (.ret res)) { s with heap := h', toks := tk }) :
    wpAny (model prog w) A.in1 (Builtin.List.listExtendWith (.ref S) (.ref z) res)
      (fun fin s' => match fin with | .done f => R (.ok f) s' | .again c' => c'.quiet = true ∧ codeAny (model prog w) A c' R s') (fun e s' => R (.error e) s') s := by
  have hT : s.TypeIs (.ref z) "zip" := ⟨_, hz, rfl⟩
  have hSz : S ≠ z := fun q => hS (by simp [q])
  unfold Builtin.List.listExtendWith
  refine wpAny_bind (wpAny_typeOf hT ?_)
  have h1 : Builtin.List.listSameRef (.ref S) (.ref z) = false := by simp [Builtin.List.listSameRef, hSz]
  have h2 : (Value.type "zip" == Value.type "list") = false := by decide
  have h3 : (Value.type "zip" == Value.type "tuple") = false := by decide
  simp only [h1, h2, h3, Bool.or_false, Bool.false_eq_true, if_false]
  refine wpAny_bind (wpAny_pyIter_zip hz ?_)
  refine wpAny_bind (wpAny_holding ?_)
  unfold Builtin.List.listLengthHint
  refine wpAny_bind (wpAny_specialOf hT F.zip_no_len ?_)
  show wpAny _ A.in1 (specialOf (Value.ref z) (Str.ofString "__length_hint__") >>= _) _ _ _
  refine wpAny_bind (wpAny_specialOf hT F.zip_no_hint ?_)
  refine wpAny_pure ?_
  show wpAny _ A.in1 (rule "list.extend.makes-room" >>= fun _ => Builtin.List.listTouch (.ref S) >>= fun _ =>
    again (.builtin "list.extend.loop" ⟨[.ref S, .ref z, res], []⟩)) _ _ _
  refine wpAny_bind (wpAny_rule ?_)
  refine wpAny_bind ?_
  show wpAny _ A.in1 (updateSeq S (·.push .none) >>= fun _ => updateSeq S (·.pop)) _ _ _
  refine wpAny_bind (wpAny_updateSeq hSl rfl ?_)
  have hS₂ := Heap.get?_update_self (Obj.mapSeq (·.push Value.none)) hSl rfl
  refine wpAny_updateSeq (hz := by seq_fits) hS₂ rfl ?_
  have hS₃ := Heap.get?_update_self (Obj.mapSeq (·.pop)) hS₂ rfl
  have oth : ∀ b o, b ≠ S → s.heap.get? b = some o → ((s.heap.update S (Obj.mapSeq (·.push Value.none))).update S (Obj.mapSeq (·.pop))).get? b = some o :=
    fun b o hb e => (Heap.get?_update_other _ _ (Ne.symm hb)).trans ((Heap.get?_update_other _ _ (Ne.symm hb)).trans e)
  refine wpAny_pure ⟨plainId_quiet F.plain_extend_loop _, zip_loop Sep D1 D2 hS hlow hl hn hh res its2.size 0 _ _ _ [] rfl (Nat.zero_le _)
    (hst.at (a := a) (b := b) (fun k s => (D1 A hh).frame _ _ _ s k) (fun k s => (D2 A hh).frame _ _ _ s k) fun c hc o e => oth c o (fun q => hS (q ▸ hc)) e) hS₃ rfl rfl ⟨List.Pairwise.nil, fun j t ht => by simp at ht⟩ (by show n0 ≤ ((s.heap.update S _).update S _).objs.size; rw [Heap.size_update, Heap.size_update]; exact hn0) fun h' tk acc' c' ts' f1 f2 f3 f4 f5 => ?_⟩
  exact hR h' tk ⟨fun c o hc e => f1 c o hc (oth c o (fun q => hc (by simp [q])) e), acc', c', ts', f2, f3, f4, f5⟩
theorem zip_init {s : Shared} {z TI TO i1 i2 a b S : Addr} {f0 : Value} {its its2 : Array Value} {n0 : Nat} {St1 St2 : Nat → Heap → Prop} (Sep : ZipSep2 z TI TO i1 i2 [i1, a] [i2, b]) (D1 : ∀ A' : Around, A'.handled = none → Draws prog w A' i1 [i1, a] its.size (fun i v => its[i]? = some v) St1) (D2 : ∀ A' : Around, A'.handled = none → Draws prog w A' i2 [i2, b] its2.size (fun i v => its2[i]? = some v) St2) (hS : S ∉ [z, TI, TO, i1, i2, a, b]) (hlow : ∀ c ∈ [z, TI, TO, i1, i2, a, b, S], c < n0) (hl : its2.size = its.size ∨ its2.size + 1 = its.size) (hn : its.size ≤ sizeLine) (hh : A.handled = none)
    (hz : IsZip s.heap z TI TO f0) (hst : ZAt St1 St2 s.heap z TI TO i1 i2 0) (hSl : s.heap.get? S = some { cls := .type "list", data := .seq #[] }) (hn0 : n0 ≤ s.heap.objs.size)
    (hR : ∀ h' tk, ZDone s.heap h' z TO i1 i2 S n0 its its2 → R (.ok (.ret .none)) { s with heap := h', toks := tk }) :
    wpAny (model prog w) A.in1 (Builtin.«list.__init__» ⟨[.ref S, .ref z], []⟩)
      (fun fin s' => match fin with | .done f => R (.ok f) s' | .again c' => c'.quiet = true ∧ codeAny (model prog w) A c' R s') (fun e s' => R (.error e) s') s := by
  show wpAny _ A.in1 (do let old ← Builtin.List.listItems (.ref S); Builtin.List.listUpdate (.ref S) (fun _ => #[]); letGo old.toList.reverse; Builtin.List.listExtendWith (.ref S) (.ref z) .none) _ _ s
  refine wpAny_bind ?_
  unfold Builtin.List.listItems
  refine wpAny_bind (wpAny_seqItems hSl rfl (wpAny_pure ?_))
  show wpAny _ A.in1 (updateSeq S (fun _ => #[]) >>= fun _ => letGo (#[] : Array Value).toList.reverse >>= fun _ => Builtin.List.listExtendWith (.ref S) (.ref z) .none) _ _ s
  refine wpAny_bind (wpAny_updateSeq hSl rfl ?_)
  have hS₂ := Heap.get?_update_self (Obj.mapSeq (fun _ => (#[] : Array Value))) hSl rfl
  have oth : ∀ b o, b ≠ S → s.heap.get? b = some o → (s.heap.update S (Obj.mapSeq (fun _ => (#[] : Array Value)))).get? b = some o :=
    fun b o hb e => (Heap.get?_update_other _ _ (Ne.symm hb)).trans e
  refine wpAny_bind (wpAny_letGo ?_)
  refine zip_extend Sep D1 D2 hS hlow hl hn hh .none _ (oth z _ (fun q => hS (by simp [q])) hz) (hst.at (a := a) (b := b) (fun k s => (D1 A hh).frame _ _ _ s k) (fun k s => (D2 A hh).frame _ _ _ s k) fun c hc o e => oth c o (fun q => hS (q ▸ hc)) e) hS₂ (by show n0 ≤ (s.heap.update S _).objs.size; rw [Heap.size_update]; exact hn0) fun h' tk ⟨f1, f2⟩ => ?_
  exact hR h' tk ⟨fun c o hc e => f1 c o hc (oth c o (fun q => hc (by simp [q])) e), f2⟩
end
section
variable {prog : Program} {w : World} {A : Around} {E : Value → Shared → Prop} {s : Shared}
theorem call_list_zip {Q : Value → Shared → Prop} {z TI TO i1 i2 a b : Addr} {f0 : Value} {its its2 : Array Value} {St1 St2 : Nat → Heap → Prop} (Sep : ZipSep2 z TI TO i1 i2 [i1, a] [i2, b]) (D1 : ∀ A' : Around, A'.handled = none → Draws prog w A' i1 [i1, a] its.size (fun i v => its[i]? = some v) St1) (D2 : ∀ A' : Around, A'.handled = none → Draws prog w A' i2 [i2, b] its2.size (fun i v => its2[i]? = some v) St2) (hlow : ∀ c ∈ [z, TI, TO, i1, i2, a, b], c < s.heap.objs.size) (hl : its2.size = its.size ∨ its2.size + 1 = its.size) (hn : its.size ≤ sizeLine) (hh : A.handled = none)
    (hz : IsZip s.heap z TI TO f0) (hst : ZAt St1 St2 s.heap z TI TO i1 i2 0)
    (hQ : ∀ h' tk, ZDone (s.heap.push { cls := .type "list", data := .seq #[] }) h' z TO i1 i2 s.heap.objs.size (s.heap.objs.size + 1) its its2 → Q (.ref s.heap.objs.size) { s with heap := h', toks := tk }) :
    wpAny (model prog w) A (call (.type "list") [.ref z]) Q E s := by
  refine callType_codes (Q₁ := fun obj s₁ => obj = .ref s.heap.objs.size ∧ s₁ = { s with heap := s.heap.push { cls := .type "list", data := .seq #[] } }) F.called_list (F.typeCall_list_1 _) F.entry_list_init
    (code_list_new _ ⟨rfl, rfl⟩) fun obj s₁ h₁ => ?_
  obtain ⟨rfl, rfl⟩ := h₁
  have hS : (s.heap.push { cls := .type "list", data := .seq #[] }).get? s.heap.objs.size = some { cls := .type "list", data := .seq #[] } := Heap.get?_push_size _ rfl
  refine ⟨⟨_, hS, rfl⟩, F.args_list_init_2 _ _, zip_init (n0 := s.heap.objs.size + 1) Sep D1 D2 (fun hm => Nat.lt_irrefl _ (hlow _ hm)) (fun c hc => ?_) hl hn (by exact hh) (Heap.get?_push_of_some _ hz) (hst.at (a := a) (b := b) (fun k s => (D1 A hh).frame _ _ _ s k) (fun k s => (D2 A hh).frame _ _ _ s k) fun c _ o e => Heap.get?_push_of_some _ e) hS (by show _ ≤ (s.heap.push _).objs.size; rw [Heap.size_push]; exact Nat.le_refl _) fun h' tk f => ?_⟩
  · have hc' : c ∈ [z, TI, TO, i1, i2, a, b] ∨ c = s.heap.objs.size := by simpa [or_assoc] using hc
    rcases hc' with q | q
    · exact Nat.lt_succ_of_lt (hlow c q)
    · rw [q]; exact Nat.lt_succ_self _
  · exact ⟨rfl, hQ h' tk f⟩
end
end Lm
namespace Lm
open PySem PySem.Spec PyProof.Rows L2
/-- the heap with the tuples told -/
def addT (H : Hp) (ts : List Addr) (its its2 : Array Value) (xs ys : List V) : Hp := fun b => if b ∈ ts then some (.frz { cls := .type "tuple", data := .seq #[its.getD (ts.idxOf b) .none, its2.getD (ts.idxOf b) .none] } (.tup [xs.getD (ts.idxOf b) .non, ys.getD (ts.idxOf b) .non])) else H b
theorem idx_at {ts : List Addr} (h : ts.Pairwise (· < ·)) {j : Nat} {t : Addr} (e : ts[j]? = some t) : ts.idxOf t = j := by
  obtain ⟨hj, e2⟩ := List.getElem?_eq_some_iff.mp e
  have hm : t ∈ ts := List.mem_of_getElem? e
  have hi := List.idxOf_lt_length_of_mem hm
  have p := List.pairwise_iff_getElem.mp h
  have eg : ts[ts.idxOf t] = t := List.getElem_idxOf _
  rcases Nat.lt_trichotomy (ts.idxOf t) j with q | q | q
  · have := p _ _ hi hj q
    rw [eg, e2] at this
    exact absurd this (Nat.lt_irrefl _)
  · exact q
  · have := p _ _ hj hi q
    rw [eg, e2] at this
    exact absurd this (Nat.lt_irrefl _)
def tLstZip (K : PySem.W.Frag) (ta : TA) : TE := fun σ H Q => ta σ H fun vs H1 => ∃ a b xs ys, vs = [.ref a, .ref b] ∧ ((SqT K H1 a xs ∧ SqT K H1 b ys) ∨ (SqL K H1 a xs ∧ SqL K H1 b ys)) ∧ (ys.length = xs.length ∨ ys.length + 1 = xs.length) ∧ xs.length ≤ sizeLine ∧
  ∀ (ts : List Addr) (H' : Hp) (p : Addr), ts.length = ys.length → (∀ (j : Nat) (t : Addr) (x y : V), ts[j]? = some t → xs[j]? = some x → ys[j]? = some y → ∃ o : Obj, o.dict = none ∧ H' t = some (.frz o (.tup [x, y]))) → (∀ b u, H1 b = some u → H' b = some u) → H' p = none → H1 p = none → Q (.ref p) (upd H' p (.lst (ts.map V.ref)))
theorem listZip_tail {X : Cx} {pins : List (Addr × Obj)} {σ : L2.St} {H1 : Hp} {s1 : Shared} {Q : VK} {a b : Addr} {xs ys : List V} {its its2 : List Value} {h' : Heap} {St1 St2 : Nat → Heap → Prop} (I1 : Inv X pins σ H1 s1) (rv : Vals xs its) (rv2 : Vals ys its2) (hlen : ys.length = xs.length ∨ ys.length + 1 = xs.length) (hsz : xs.length ≤ sizeLine) (la : a < s1.heap.objs.size) (lb : b < s1.heap.objs.size) (hhd : X.A.handled = none)
    (D1 : ∀ A' : Around, A'.handled = none → Draws X.prog X.w A' s1.heap.objs.size [s1.heap.objs.size, a] its.toArray.size (fun i v => its.toArray[i]? = some v) St1) (D2 : ∀ A' : Around, A'.handled = none → Draws X.prog X.w A' (s1.heap.objs.size + 1) [s1.heap.objs.size + 1, b] its2.toArray.size (fun i v => its2.toArray[i]? = some v) St2)
    (hz : IsZip h' (s1.heap.objs.size + 4) (s1.heap.objs.size + 2) (s1.heap.objs.size + 3) .none) (hTI : IsPair h' (s1.heap.objs.size + 2) (.ref s1.heap.objs.size) (.ref (s1.heap.objs.size + 1))) (hTO : IsPair h' (s1.heap.objs.size + 3) .none .none) (st1 : St1 0 h') (st2 : St2 0 h') (hsz5 : h'.objs.size = s1.heap.objs.size + 5) (hk : ∀ c o, s1.heap.get? c = some o → h'.get? c = some o)
    (q : ∀ (ts : List Addr) (H' : Hp) (p : Addr), ts.length = ys.length → (∀ (j : Nat) (t : Addr) (x y : V), ts[j]? = some t → xs[j]? = some x → ys[j]? = some y → ∃ o : Obj, o.dict = none ∧ H' t = some (.frz o (.tup [x, y]))) → (∀ b u, H1 b = some u → H' b = some u) → H' p = none → H1 p = none → Q (.ref p) (upd H' p (.lst (ts.map V.ref)))) :
    wpAny (model X.prog X.w) X.A (call (.type "list") [.ref (s1.heap.objs.size + 4)]) (EP X pins σ Q) X.xe { s1 with heap := h' } := by
  have l1 := rv.length
  have l2 := rv2.length
  refine call_list_zip (s := { s1 with heap := h' }) (zip_sep2 (N := s1.heap.objs.size) (fp1 := [a]) (fp2 := [b]) (fun c hc => by cases List.mem_singleton.mp hc; exact la) (fun c hc => by cases List.mem_singleton.mp hc; exact lb)) D1 D2 (fun c hc => ?_) (its := its.toArray) (its2 := its2.toArray) (by simp; omega) (by simp; omega) hhd hz ⟨⟨_, _, hz, .inl rfl⟩, hTI, ⟨_, _, hTO⟩, st1, st2⟩ fun h'' tk fd => ?_
  · show c < h'.objs.size
    rw [hsz5]
    simp only [List.mem_cons, List.not_mem_nil, or_false] at hc
    rcases hc with z | z | z | z | z | z | z <;> rw [z]
    · exact Nat.lt_succ_self _
    · exact Nat.add_lt_add_left (by decide) _
    · exact Nat.add_lt_add_left (by decide) _
    · exact Nat.lt_add_of_pos_right (by decide)
    · exact Nat.add_lt_add_left (by decide) _
    · exact Nat.lt_of_lt_of_le la (Nat.le_add_right _ _)
    · exact Nat.lt_of_lt_of_le lb (Nat.le_add_right _ _)
  · obtain ⟨f1, acc, cc, ts, f2, f3, f4, f5, f6⟩ := fd
    have e5 : h'.objs.size = s1.heap.objs.size + 5 := hsz5
    have old : ∀ c o, s1.heap.get? c = some o → h''.get? c = some o := fun c o g => by
      have lc := Heap.lt_size g
      refine f1 c o (fun hc => ?_) (Heap.get?_push_of_some _ (hk c o g))
      simp only [List.mem_cons, List.not_mem_nil, or_false] at hc
      have e5' : ({ s1 with heap := h' } : Shared).heap.objs.size = s1.heap.objs.size + 5 := e5
      rw [e5'] at hc
      rcases hc with z | z | z | z | z <;> rw [z] at lc <;> exact absurd lc (Nat.not_lt.mpr (by first | exact Nat.le_add_right _ _ | exact Nat.le_refl _))
    have tsz : ∀ t ∈ ts, s1.heap.objs.size + 6 ≤ t := fun t ht => by
      obtain ⟨j, hj⟩ := List.getElem?_of_mem ht
      have := (f6 j t hj).1
      have e5' : ({ s1 with heap := h' } : Shared).heap.objs.size = s1.heap.objs.size + 5 := e5
      rw [e5'] at this
      exact this
    have tn : ∀ c o, s1.heap.get? c = some o → c ∉ ts := fun c o g hc => by
      have h1 := Heap.lt_size g
      have h2 := tsz c hc
      exact absurd (Nat.lt_of_lt_of_le h1 (Nat.le_trans (Nat.le_add_right _ 6) h2)) (Nat.lt_irrefl _)
    have Hn : ∀ c u, H1 c = some u → c ∉ ts := fun c u g hc => by
      have h1 := (I1.hok c u g).lt
      have h2 := tsz c hc
      exact absurd (Nat.lt_of_lt_of_le h1 (Nat.le_trans (Nat.le_add_right _ 6) h2)) (Nat.lt_irrefl _)
    have keepH : ∀ c u, H1 c = some u → addT H1 ts its.toArray its2.toArray xs ys c = some u := fun c u g => by
      unfold addT
      rw [if_neg (Hn c u g)]
      exact g
    have atT : ∀ (j : Nat) (t : Addr) (x y : V), ts[j]? = some t → xs[j]? = some x → ys[j]? = some y → ∃ vx vy, its[j]? = some vx ∧ its2[j]? = some vy ∧ RelV x vx ∧ RelV y vy ∧ IsTupOf2 h'' t vx vy ∧ addT H1 ts its.toArray its2.toArray xs ys t = some (.frz { cls := .type "tuple", data := .seq #[vx, vy] } (.tup [x, y])) := fun j t x y ht hx hy => by
      obtain ⟨u, hu, ru⟩ := rv.get hx
      obtain ⟨u2, hu2, ru2⟩ := rv2.get hy
      obtain ⟨_, vx, vy, gx, gy, gt⟩ := f6 j t ht
      have q1 : vx = u := by
        have : its[j]? = some vx := by simpa using gx
        rw [hu] at this
        exact (Option.some.inj this).symm
      have q2 : vy = u2 := by
        have : its2[j]? = some vy := by simpa using gy
        rw [hu2] at this
        exact (Option.some.inj this).symm
      subst q1 q2
      refine ⟨vx, vy, hu, hu2, ru, ru2, gt, ?_⟩
      unfold addT
      rw [if_pos (List.mem_of_getElem? ht), idx_at f5 ht]
      have a1 : its.toArray.getD j .none = vx := by
        rw [Array.getD_eq_getD_getElem?, gx]; rfl
      have a2 : its2.toArray.getD j .none = vy := by
        rw [Array.getD_eq_getD_getElem?, gy]; rfl
      have a3 : xs.getD j .non = x := by rw [List.getD_eq_getElem?_getD, hx]; rfl
      have a4 : ys.getD j .non = y := by rw [List.getD_eq_getElem?_getD, hy]; rfl
      rw [a1, a2, a3, a4]
    have Sn : addT H1 ts its.toArray its2.toArray xs ys h'.objs.size = none := by
      unfold addT
      rw [if_neg (fun hc => by
        have := tsz _ hc
        rw [e5] at this
        exact absurd this (by exact Nat.not_succ_le_self _))]
      exact I1.hok.fresh (by rw [e5]; exact Nat.le_add_right _ _)
    have S1 : H1 h'.objs.size = none := I1.hok.fresh (by rw [e5]; exact Nat.le_add_right _ _)
    have hts : ts.length = ys.length := by rw [f4]; simp; omega
    refine ⟨.ref h'.objs.size, _, Inv.drained (ex := []) (out := ts.map V.ref) (acc := acc) (c := cc) I1 (H' := addT H1 ts its.toArray its2.toArray xs ys) (s' := { s1 with heap := h'', toks := tk }) (by rw [e5]; exact Nat.le_add_right _ _) (by simp; omega) f2 ?_ ExOk.nil rfl I1.bare ⟨fun c o g _ _ _ => old c o g, fun c o g _ _ _ => ⟨o.slots, old c o g⟩, fun c o g hn _ => ?_, fun c o g _ => ⟨o, old c o g⟩, fun c zs g => keepH c _ g, fun c o u g => keepH c _ g, fun c ps g => ⟨#[], by rw [keepH c _ g]; simp⟩⟩ (fun c u g => ?_) Sn, rfl, q ts _ _ hts (fun j t x y ht hx hy => ?_) keepH Sn S1⟩
    · rw [f3]
      clear f3 f4 f5 f6 tsz tn Hn keepH atT Sn hts
      induction ts with
      | nil => exact .nil
      | cons t ts ih => exact .cons rfl ih
    · unfold addT
      rw [if_neg (tn c o g)]
      exact hn
    · by_cases w : c ∈ ts
      · obtain ⟨j, hj⟩ := List.getElem?_of_mem w
        have hjl := (List.getElem?_eq_some_iff.mp hj).1
        obtain ⟨vx, vy, g1, g2, g3, g4, g5, g6⟩ := atT j c xs[j] (ys[j]'(by omega)) hj (List.getElem?_eq_getElem (by omega)) (List.getElem?_eq_getElem (by omega))
        rw [g6] at g
        cases g
        exact ⟨g5, by show 2 ≤ sizeLine; decide, [vx, vy], .cons g3 (.cons g4 .nil), ⟨_, g5, rfl, _, rfl⟩⟩
      · have g' : H1 c = some u := by
          unfold addT at g
          rw [if_neg w] at g
          exact g
        exact (I1.hok c u g').stay (fun d v _ z => old d v z) (fun d z => keepH d _ z) fun d zs z => keepH d _ z
    · obtain ⟨vx, vy, _, _, _, _, _, g6⟩ := atT j t x y ht hx hy
      exact ⟨_, rfl, g6⟩
theorem pe_listZip {X : Cx} {e e2 : Expr} {ta : TA} {p pos p2 pos2 : Pos} (hc : X.calm = true) (hg : Gl X "list") (hm : X.mg "list" = none) (hg2 : Gl X "zip") (hm2 : X.mg "zip" = none) (ha : PA X [e, e2] ta)
    (hs : starEach [e, e2] X.env = (false, eval e X.env) :: starEach [e2] X.env := by rfl) (hpl : (backTo pos2 (starEach [e2] X.env)).any (·.1) = false := by rfl)
    (na : starEach [.Call (.Name "zip" p2) [e, e2] [] pos2] X.env = (false, eval (.Call (.Name "zip" p2) [e, e2] [] pos2) X.env) :: starEach [] X.env := by rfl) :
    PE X (.Call (.Name "list" p) [.Call (.Name "zip" p2) [e, e2] [] pos2] [] pos) (tLstZip X.K ta) := by
  refine ⟨fun pins s σ H Q I h => ?_⟩
  refine Call_ (ld_blt I hg hm boot_list (PyProof.Rows.callWith_type1 (PyProof.Rows.args_cons ?_ na) na))
  refine Call_ (ld_blt I hg2 hm2 PyProof.Rows.boot_zip (PyProof.Rows.callWith_type1 (thn (ha.run pos2 pins s σ H _ I h) fun us s1 ⟨vs, H1, I1, r1, q1⟩ => ?_) hs hpl))
  obtain ⟨a, b, xs, ys, ex, hq, hlen, hsz, q⟩ := q1
  subst ex
  cases r1 with
  | cons r rr =>
    cases rr with
    | cons r' rr =>
      cases rr
      cases r
      cases r'
      rcases hq with ⟨hqx, hqy⟩ | ⟨hqx, hqy⟩
      · obtain ⟨its, rv, p1, _⟩ := I1.tuple hqx
        obtain ⟨its2, rv2, p3, _⟩ := I1.tuple hqy
        have la : a < s1.heap.objs.size := let ⟨_, w, _⟩ := p1; Heap.lt_size w
        have lb : b < s1.heap.objs.size := let ⟨_, w, _⟩ := p3; Heap.lt_size w
        refine RZ.call_zipT (show s1.heap.IsTuple a its.toArray from p1) (show s1.heap.IsTuple b its2.toArray from p3) fun h' hz hTI hTO h1 h2 hsz5 hk => PyProof.Rows.args_nil ?_
        exact listZip_tail I1 rv rv2 hlen hsz la lb (I1.ok.hd hc) (fun A' hh' => Draws.tuple hh' _ a (Nat.ne_of_lt la) its.toArray) (fun A' hh' => Draws.tuple hh' _ b (Nat.ne_of_lt (Nat.lt_succ_of_lt lb)) its2.toArray) hz hTI hTO ⟨h1, (show s1.heap.IsTuple a its.toArray from p1).at fun o e => hk a o e⟩ ⟨h2, (show s1.heap.IsTuple b its2.toArray from p3).at fun o e => hk b o e⟩ hsz5 hk q
      · obtain ⟨its, rv, p1, _⟩ := I1.list hqx
        obtain ⟨its2, rv2, p3, _⟩ := I1.list hqy
        have la : a < s1.heap.objs.size := let ⟨_, w, _⟩ := p1.isList; Heap.lt_size w
        have lb : b < s1.heap.objs.size := let ⟨_, w, _⟩ := p3.isList; Heap.lt_size w
        refine call_zip_2 p1.isList p3.isList fun h' hz hTI hTO h1 h2 hsz5 hk => PyProof.Rows.args_nil ?_
        exact listZip_tail I1 rv rv2 hlen hsz la lb (I1.ok.hd hc) (fun A' hh' => Draws.list hh' _ a (Nat.ne_of_lt la) its.toArray) (fun A' hh' => Draws.list hh' _ b (Nat.ne_of_lt (Nat.lt_succ_of_lt lb)) its2.toArray) hz hTI hTO ⟨h1, p1.isList.at fun o e => hk a o e⟩ ⟨h2, p3.isList.at fun o e => hk b o e⟩ hsz5 hk q
section
variable {X : Cx} {K : PySem.W.Frag} (hK : X.K = K)
include hK
theorem k_listZip {e e2 : Expr} {ta : TA} {p pos p2 pos2 : Pos} (hc : X.calm = true) (hg : Gl X "list") (hm : X.mg "list" = none) (hg2 : Gl X "zip") (hm2 : X.mg "zip" = none) (ha : PA X [e, e2] ta)
    (hs : starEach [e, e2] X.env = (false, eval e X.env) :: starEach [e2] X.env := by rfl) (hpl : (backTo pos2 (starEach [e2] X.env)).any (·.1) = false := by rfl)
    (na : starEach [.Call (.Name "zip" p2) [e, e2] [] pos2] X.env = (false, eval (.Call (.Name "zip" p2) [e, e2] [] pos2) X.env) :: starEach [] X.env := by rfl) :
    PE X (.Call (.Name "list" p) [.Call (.Name "zip" p2) [e, e2] [] pos2] [] pos) (tLstZip K ta) := hK ▸ pe_listZip hc hg hm hg2 hm2 ha hs hpl na
end
section
variable {c : Ct} {H H' : Hp} {Γ : List (Option Rs)} {tr : TA} {ds es : List PyData} {kv : Bool}
theorem bo_of : ∀ {vs : List V} {ds : List PyData}, vs.length = ds.length → (∀ (j : Nat) (v : V) (d : PyData), vs[j]? = some v → ds[j]? = some d → Bo c H v d) → BoAll c H vs ds
  | [], [], _, _ => .nil
  | v :: vs, d :: ds, hl, h => .cons (h 0 v d rfl rfl) (bo_of (by simpa using hl) fun j v d a b => h (j + 1) v d (by simpa using a) (by simpa using b))
  | [], _ :: _, hl, _ => by simp at hl
  | _ :: _, [], hl, _ => by simp at hl
def zipTs (ds es : List PyData) : List PyData := (ds.zip es).map fun p => .tuple [p.1, p.2]
theorem zipTs_flat (hd : flatAll ds = true) (he : flatAll es = true) : flatAll (zipTs ds es) = true := flatAll_mem fun d hd' => by
  obtain ⟨p, hp, rfl⟩ := List.mem_map.mp hd'
  have h1 := flatAll_one hd (List.of_mem_zip hp).1
  have h2 := flatAll_one he (List.of_mem_zip hp).2
  simp [flatD, flatAll, h1, h2]
theorem e_listZip (h : EvA c tr Γ true [.tuple ds, .tuple es]) (hd : flatAll ds = true) (he : flatAll es = true) (hl : es.length = ds.length ∨ es.length + 1 = ds.length) (hs : ds.length ≤ 1000000) : Ev c (tLstZip c.K tr) Γ .o (.list (zipTs ds es)) := fun H0 O H σ e Q q =>
  h H0 O H σ e _ fun vs H1 r s => by
    obtain ⟨va, vb, rfl, ba, bb⟩ := s.two
    have ba' : Bo c H1 va (.tuple ds) := Bo.same mns_same ba
    have bb' : Bo c H1 vb (.tuple es) := Bo.same mns_same bb
    obtain ⟨a, xs, rfl, sa, al⟩ := ba'.tup'
    obtain ⟨b, ys, rfl, sb, bl⟩ := bb'.tup'
    have l1 := al.len
    have l2 := bl.len
    refine ⟨a, b, xs, ys, rfl, .inl ⟨sa.sq, sb.sq⟩, by omega, by rw [l1]; exact sizeOk hs, fun ts H' p h1 h2 h3 h4 h5 => ?_⟩
    have sm1 : Same H1 H' := fun b u z => h3 b u z
    have sm2 : Same H' (upd H' p (.lst (ts.map V.ref))) := fun b u z => by rw [upd_ne (ne_of_none z h4)]; exact z
    refine q _ _ (r.tr ((Rr.same sm1).tr (Rr.same sm2))) ⟨[p], .lst upd_same (FoAll.leaves (zipTs_flat hd he) (bo_of (by simp [zipTs]; omega) fun j v d hv hd' => ?_)), by simp, fun a ha => ?_⟩
    · rw [List.getElem?_map] at hv
      obtain ⟨t, ht, rfl⟩ := Option.map_eq_some_iff.mp hv
      have hj := (List.getElem?_eq_some_iff.mp ht).1
      have hx : xs[j]? = some xs[j] := List.getElem?_eq_getElem (by omega)
      have hy : ys[j]? = some (ys[j]'(by omega)) := List.getElem?_eq_getElem (by omega)
      obtain ⟨o, ho, ht'⟩ := h2 j t _ _ ht hx hy
      obtain ⟨dx, gx, bx⟩ := al.get hx
      obtain ⟨dy, gy, bY⟩ := bl.get hy
      have ed : d = .tuple [dx, dy] := by
        unfold zipTs at hd'
        rw [List.getElem?_map] at hd'
        obtain ⟨pq, hpq, e1⟩ := Option.map_eq_some_iff.mp hd'
        have := List.getElem?_zip_eq_some.mp hpq
        rw [gx, gy] at this
        rw [← e1]
        have h1 := Option.some.inj this.1
        have h2 := Option.some.inj this.2
        rw [h1, h2]
      subst ed
      exact .tup (.inl ⟨o, ho, sm2 _ _ ht'⟩) (.cons ((bx.same sm1).same sm2) (.cons ((bY.same sm1).same sm2) .nil))
    · cases List.mem_singleton.mp ha
      exact r.back e.jH h5
theorem e_listZipL (h : EvA c tr Γ kv [.list ds, .list es]) (hd : flatAll ds = true) (he : flatAll es = true) (hl : es.length = ds.length ∨ es.length + 1 = ds.length) (hs : ds.length ≤ 1000000) : Ev c (tLstZip c.K tr) Γ .o (.list (zipTs ds es)) := fun H0 O H σ e Q q =>
  h H0 O H σ e _ fun vs H1 r s => by
    have s' : BoAll c H1 vs [.list ds, .list es] := by
      cases kv with
      | true => exact BoAll.same mns_same (BoAll.vm s)
      | false => exact s
    obtain ⟨va, vb, rfl, ba', bb'⟩ := s'.two
    obtain ⟨a, xs, rfl, _, sa, al⟩ := ba'.lst'
    obtain ⟨b, ys, rfl, _, sb, bl⟩ := bb'.lst'
    have l1 := al.len
    have l2 := bl.len
    refine ⟨a, b, xs, ys, rfl, .inr ⟨sa, sb⟩, by omega, by rw [l1]; exact sizeOk hs, fun ts H' p h1 h2 h3 h4 h5 => ?_⟩
    have sm1 : Same H1 H' := fun b u z => h3 b u z
    have sm2 : Same H' (upd H' p (.lst (ts.map V.ref))) := fun b u z => by rw [upd_ne (ne_of_none z h4)]; exact z
    refine q _ _ (r.tr ((Rr.same sm1).tr (Rr.same sm2))) ⟨[p], .lst upd_same (FoAll.leaves (zipTs_flat hd he) (bo_of (by simp [zipTs]; omega) fun j v d hv hd' => ?_)), by simp, fun a ha => ?_⟩
    · rw [List.getElem?_map] at hv
      obtain ⟨t, ht, rfl⟩ := Option.map_eq_some_iff.mp hv
      have hj := (List.getElem?_eq_some_iff.mp ht).1
      have hx : xs[j]? = some xs[j] := List.getElem?_eq_getElem (by omega)
      have hy : ys[j]? = some (ys[j]'(by omega)) := List.getElem?_eq_getElem (by omega)
      obtain ⟨o, ho, ht'⟩ := h2 j t _ _ ht hx hy
      obtain ⟨dx, gx, bx⟩ := al.get hx
      obtain ⟨dy, gy, bY⟩ := bl.get hy
      have ed : d = .tuple [dx, dy] := by
        unfold zipTs at hd'
        rw [List.getElem?_map] at hd'
        obtain ⟨pq, hpq, e1⟩ := Option.map_eq_some_iff.mp hd'
        have := List.getElem?_zip_eq_some.mp hpq
        rw [gx, gy] at this
        rw [← e1]
        have h1 := Option.some.inj this.1
        have h2 := Option.some.inj this.2
        rw [h1, h2]
      subst ed
      exact .tup (.inl ⟨o, ho, sm2 _ _ ht'⟩) (.cons ((bx.same sm1).same sm2) (.cons ((bY.same sm1).same sm2) .nil))
    · cases List.mem_singleton.mp ha
      exact r.back e.jH h5
end
end Lm


/-! slices of tuples or lists, a range kept in a name, enumerate of a new list -/
namespace Lm
open PySem PySem.Spec PyProof.Rows L2
def rSlU (K : PySem.W.Frag) : V → Option Int → Option Int → Hp → VK → Prop := fun x lo hi H Q => rSlN K x lo hi H Q ∨ rSlL K x lo hi H Q
/-- a new range object -/
def rRng1 : List V → Hp → VK → Prop := fun vs H Q => ∃ j : Int, vs = [V.int j] ∧ ∀ p, H p = none → Q (.ref p) (upd H p (.rng 0 j))
/-- a name that holds a range, walked -/
def iRngN (ta : TE) : TI := fun σ H R => ta σ H fun x H1 => ∃ (a : Addr) (lo hi : Int), x = .ref a ∧ H1 a = some (.rng lo hi) ∧ (-(2 ^ 62) ≤ lo ∧ lo < 2 ^ 62 ∧ -(2 ^ 62) ≤ hi ∧ hi < 2 ^ 62) ∧ R (Itr lo (hi - lo).toNat) H1
section
variable {X : Cx} {tg : Expr}
theorem cr_rng1 : CallR X (.type "range") rRng1 := by
  intro pins s σ H vs us Q I r h
  obtain ⟨j, rfl, q⟩ := h
  cases r with
  | cons ra rb =>
    cases rb
    obtain ⟨t, rfl⟩ := ra
    refine call_range_1 ⟨.ref s.heap.objs.size, upd H s.heap.objs.size (.rng 0 j), I.laid (t' := s.toks + 1 + 1) (fun b o e => Heap.get?_push_of_some _ e) (Nat.le_refl _) ?_, rfl, q _ (I.hok.fresh (Nat.le_refl _))⟩
    exact ⟨s.toks, t, s.toks + 1, Heap.get?_push_size _ rfl⟩
theorem pi_rngN {e : Expr} {ta : TE} (he : PE X e ta) : PI X tg e (iRngN ta) := by
  refine ⟨fun pins s σ H R I h => ?_⟩
  refine thn (he.run pins s σ H _ I h) fun v s1 ⟨x, H1, I1, r1, q1⟩ => ?_
  obtain ⟨a, lo, hi, rfl, ha, ⟨b1, b2, b3, b4⟩, q⟩ := q1
  cases r1
  obtain ⟨t, u, w, hr⟩ := I1.hok a _ ha
  refine wpAny_pyIter_range hr (small_one b1 b2 b3 b4) ?_
  refine ⟨s1.heap.objs.size, [s1.heap.objs.size], _, _, H1, rfl, I1.kept (t' := s1.toks) fun b o e => Heap.get?_push_of_some _ e, turn_range _ lo (hi - lo).toNat, ?_, fun b hb => ?_, q⟩
  · have n1 : lo + ((0 : Nat) : Int) * 1 = lo := by simp
    have n2 : (((hi - lo).toNat : Nat) : Int) - ((0 : Nat) : Int) = Builtin.Range.rangeSize lo hi 1 := by rw [rangeSize_one]; split <;> omega
    rw [n1, n2]
    exact Heap.get?_push_size _ rfl
  · cases List.mem_singleton.mp hb
    exact I1.fpOk (Nat.le_refl _) (I1.hok.fresh (Nat.le_refl _))
end
section
variable {X : Cx} {K : PySem.W.Frag} (hK : X.K = K)
include hK
theorem k_slU : SlR X (rSlU K) := by
  subst hK
  intro pins s σ H x v vl vu lo hi sl Q I rx hs pl pu h
  rcases h with h | h
  · exact sl_tupN pins s σ H x v vl vu lo hi sl Q I rx hs pl pu h
  · exact sl_list pins s σ H x v vl vu lo hi sl Q I rx hs pl pu h
end
section
variable {c : Ct} {H H' H0 H1 H2 H3 : Hp} {O : List Addr} {Γ Γ' Γ1 : List (Option Rs)}
variable {te ta tb tx : TE} {tl th : TO} {k ka kb : Kd} {d x y z : PyData} {i j : Int} {a b : Bool} {ds es : List PyData} {u : TS} {P : Out → Prop} {n : Nat} {kv : Bool} {tr : TA}
theorem e_slU {lo hi : Option Int} (h : Ev c te Γ .v (.tuple ds)) (h1 : Eo c tl Γ lo) (h2 : Eo c th Γ hi) : Ev c (tSl (rSlU c.K) te tl th) Γ .v (.tuple (cutD ds lo hi)) := fun H0 O H σ e Q q => by
  have := e_sl h h1 h2 H0 O H σ e Q q
  revert this
  unfold tSl rSlU
  intro w
  refine h H0 O H σ e _ fun v H1 r1 s1 => h1 H0 O H1 σ (e.on r1) _ fun H2 r2 => h2 H0 O H2 σ ((e.on r1).on r2) _ fun H3 r3 => .inl ?_
  have r : Rr c H H3 := (r1.tr r2).tr r3
  obtain ⟨p, xs, rfl, s, al⟩ := Bo.tup' (Res.on e r1 (r2.tr r3) s1)
  refine ⟨p, xs, rfl, (sqT_same mns_same s).sq, fun w => ?_, fun _ => newTk (c := c) fun p' H4 hp sm tp => ?_⟩
  · refine q (.ref p) H3 r ?_
    have n1 : cutD ds lo hi = ds := by
      unfold cutD
      rw [← al.len, w.1, w.2, al.len]
      simp
    rw [n1]
    exact .tup s al
  · have r4 : Rr c H H4 := r.tr (Rr.same sm)
    exact q _ H4 r4 (.tup (tpN_mns e r4 tp) (al.cut.mono (e.on r).j ((Rr.same sm : Rr c H3 H4).mns (e.on r).j e.okO)))
/-- a slice of a list: a new list -/
theorem e_slL {lo hi : Option Int} (h : Ev c te Γ k (.list ds)) (h1 : Eo c tl Γ lo) (h2 : Eo c th Γ hi) (hf : flatAll ds = true) : Ev c (tSl (rSlU c.K) te tl th) Γ .o (.list (cutD ds lo hi)) := fun H0 O H σ e Q q =>
  h H0 O H σ e _ fun v H1 r1 s1 => h1 H0 O H1 σ (e.on r1) _ fun H2 r2 => h2 H0 O H2 σ ((e.on r1).on r2) _ fun H3 r3 => .inr <| by
    have r : Rr c H H3 := (r1.tr r2).tr r3
    obtain ⟨p, xs, rfl, _, s, al⟩ := (Res.bo e (Res.on e r1 (r2.tr r3) s1)).lst'
    refine ⟨p, xs, rfl, s, fun p' hp => ?_⟩
    have sm : Same H3 (upd H3 p' (.lst (cutV xs lo hi))) := fun b u z => by rw [upd_ne (ne_of_none z hp)]; exact z
    refine q _ _ (r.tr (Rr.same sm)) ⟨[p'], .lst upd_same (FoAll.leaves ?_ (al.cut.same sm)), by simp, fun b hb => ?_⟩
    · exact flatAll_mem fun d hd => flatAll_one hf (List.mem_of_mem_drop (List.mem_of_mem_take hd))
    · cases List.mem_singleton.mp hb
      exact r.back e.jH hp
/-- n = range(..); return tuple([.. for v in n]) -/
theorem s_rngRet {m : Int} {g : TG} {tt : TT} {vs : List Nat} {P : Out → Prop}
    (h : Ev c te Γ k (.int m)) (h1 : m ≤ 1000000) (h2 : -1000000 ≤ m) (hn : n < Γ.length)
    (hr : ∀ y : V, Ev c (tCB (rTuple c.K) (tCons (tLc (iRng1 (tCons (tC (.int m)) tNil)) g tt tx vs) tNil)) (Γ.set n (some (.r y))) .v d) (hfl : flatD d = true) (hp : P (.rt .v d)) :
    Sd c (tSeq (tAsg (tCB rRng1 (tCons te tNil)) (gName n)) (tRet (tCB (rTuple c.K) (tCons (tLc (iRngN (tVar n)) g tt tx vs) tNil)))) Γ P := fun H0 O H σ D e s =>
  h H0 O H σ e _ fun v H1 r1 s1 => by
    refine ⟨m, by rw [(Res.bo e s1).int'], fun p hp' => ?_⟩
    have sm : Same H1 (upd H1 p (.rng 0 m)) := fun b u z => by rw [upd_ne (ne_of_none z hp')]; exact z
    have e2 : Env c H0 O (upd H1 p (.rng 0 m)) (σ.set n (some (.ref p))) (Γ.set n (some (.r (.ref p)))) := (e.on (r1.tr (Rr.same sm))).setR
    have hs : (σ.set n (some (V.ref p)))[n]? = some (some (V.ref p)) := by
      rw [List.getElem?_set_self]
      rw [e.len]; exact hn
    have hx := s_ret (P := P) (hr (.ref p)) (.inr ⟨rfl, hfl⟩) hp H0 O _ _ D e2 s
    obtain ⟨j, ej, _, _, hx⟩ := hx
    cases ej
    exact ⟨_, hs, p, 0, m, rfl, upd_same, ⟨by omega, by omega, by omega, by omega⟩, by simpa using hx⟩
end
end Lm


/-! series of allocations: their steps, losses, turns -/
namespace Lm
open PySem PySem.Spec PyProof.Rows L2
def prs {α : Type} (ns : List α) : List (α × α) := ns.zip (ns.drop 1)
def neg0 (p : Int × Int) : Int := if 0 > p.1 - p.2 then 0 else p.1 - p.2
def los (l : List (Int × Int)) : Int := (l.map neg0).sum
theorem los_cons (p : Int × Int) (l : List (Int × Int)) : los (p :: l) = neg0 p + los l := by simp [los]
theorem neg0_nn (p : Int × Int) : 0 ≤ neg0 p := by unfold neg0; split <;> omega
/-- grown, shrunk -/
def turnF : Bool → Bool → Nat → List (Int × Int) → Option Nat
  | _, _, _, [] => none
  | g, s, k, p :: l => if (decide (p.1 < p.2) && s) || (decide (p.2 < p.1) && g) then some k else turnF (g || decide (p.1 < p.2)) (s || decide (p.2 < p.1)) (k + 1) l
theorem prs_cons2 {α : Type} (x y : α) (r : List α) : prs (x :: y :: r) = (x, y) :: prs (y :: r) := by simp [prs]
def colI (A : List (List Int)) (i : Nat) : List Int := A.map fun a => a.getD i 0
def turnC (A : List (List Int)) (i : Nat) : Option Nat := turnF false false 0 (prs (colI A i))
def losC (A : List (List Int)) (i : Nat) : Int := los (prs (colI A i))
theorem prs_col (A : List (List Int)) (i : Nat) : prs (colI A i) = (prs A).map fun p => (p.1.getD i 0, p.2.getD i 0) := by
  unfold prs colI
  rw [← List.map_drop, List.zip_map]
  rfl
structure Ser (A : List (List Int)) (v b : Int) : Prop where
  l1 : 1 ≤ A.length
  l2 : A.length ≤ 10
  alc : ∀ a ∈ A, Alc a v b
  v1 : 1 ≤ v
  v5 : v ≤ 5
  b20 : b ≤ 20
variable {A : List (List Int)} {v b : Int}
theorem Ser.len (h : Ser A v b) : ∀ a ∈ A, a.length = v.toNat := fun a ha => by have := (h.alc a ha).len; omega
theorem Ser.at (h : Ser A v b) {i : Nat} (hi : i < A.length) : Alc (A.getD i []) v b := by
  have : A.getD i [] = A[i] := by simp [List.getD_eq_getElem?_getD, hi]
  rw [this]
  exact h.alc _ (List.getElem_mem hi)
theorem prs_mem {p : List Int × List Int} (h : p ∈ prs A) : p.1 ∈ A ∧ p.2 ∈ A := by
  have := List.of_mem_zip h
  exact ⟨this.1, List.mem_of_mem_drop this.2⟩
def fstT (A : List (List Int)) (n : Nat) : Option (Nat × Nat) := (List.range n).findSome? fun i => (turnC A i).map fun k => (i, k)
theorem fstT_succ (A : List (List Int)) (n : Nat) : fstT A (n + 1) = (fstT A n).or ((turnC A n).map fun k => (n, k)) := by
  unfold fstT
  rw [List.range_succ, List.findSome?_append]
  simp
def ovr (A : List (List Int)) (n : Nat) : Option Nat := (List.range n).find? fun i => decide ((A.getD 0 []).getD i 0 < losC A i)
theorem ovr_succ (A : List (List Int)) (n : Nat) : ovr A (n + 1) = (ovr A n).or (if (A.getD 0 []).getD n 0 < losC A n then some n else none) := by
  unfold ovr
  rw [List.range_succ, List.find?_append]
  congr 1
  by_cases h : (A.getD 0 []).getD n 0 < losC A n
  · rw [if_pos h, List.find?_cons, decide_eq_true h]
  · rw [if_neg h, List.find?_cons, decide_eq_false h]
    rfl
def natD : Option Nat → PyData
  | none => .none
  | some n => .int (n : Int)
end Lm


/-! series: the promises -/
namespace Lm
open PySem PySem.Spec PyProof.Rows L2
section
variable {c : Ct} {H H' H0 H1 H2 H3 : Hp} {O : List Addr} {Γ Γ' Γ1 : List (Option Rs)}
variable {te ta tb tx : TE} {k ka kb : Kd} {d x y z : PyData} {ds es : List PyData} {u : TS} {P : Out → Prop} {n : Nat}
theorem s_appN {Pd : PyData → Prop} (hx : Γ[n]? = some (some (.o (.list ds)))) (h : EvN c te Γ k Pd) (hf : ∀ d, Pd d → flatD d = true) (hl : ds.length < 1000000) (p : ∀ d, Pd d → P (.nx (Γ.set n (some (.o (.list (ds ++ [d]))))))) : Sd c (tDrop (tBM c.K "list" rAppend (tVar n) (tCons te tNil))) Γ P := fun H0 O H σ D e s => by
  have gen : ∀ d, Env c H0 O H σ Γ → ∃ q, σ[n]? = some (some (.ref q)) ∧ ∃ xs, H q = some (.lst xs) := fun d e => by
    obtain ⟨q, xs, f, hq, hp, _⟩ := e.write (es := ds ++ [d]) hx
    exact ⟨q, hq, xs, hp⟩
  obtain ⟨q, hq, xs, hp⟩ := gen .none e
  refine ⟨.ref q, hq, .inl ⟨rfl, xs, .inl (.inl hp)⟩, h H0 O H σ e _ fun v d H2 pd r rs => ?_⟩
  have e2 := e.on r
  obtain ⟨q', xs', f', hq', hp', fa', qf', qO', wr⟩ := e2.write (es := ds ++ [d]) hx
  have : q' = q := by rw [hq] at hq'; cases hq'; rfl
  subst this
  have bo : Bo c H2 v d := Res.bo e rs
  have lx : xs'.length = ds.length := (fa'.bo fun a ha => e.okO a (qO' a ha)).len
  refine ⟨q', xs', v, rfl, rfl, hp', by rw [lx, sizeLine_eq]; omega, s _ (p d pd) O _ σ (wr (xs' ++ [v]) ?_)⟩
  have := fa'.app (.cons (.leaf (hf d pd) bo) .nil : FoAll c H2 [v] [d] ([] ++ []))
  rw [List.append_nil, List.append_nil] at this
  exact this.up (fun _ _ s => sqT_upd hp' s) fun a ha o z => by
    have : a ≠ q' := fun w => qf' (w ▸ ha)
    rw [upd_ne this]; exact z
theorem n_lst1 {Pa : PyData → Prop} (ha : EvN c ta Γ ka Pa) (hx : ∀ y, Pa y → flatD y = true) : EvN c (tLst (tCons ta tNil)) Γ .o (fun d => ∃ x, d = .list [x] ∧ Pa x) := fun H0 O H σ e Q q =>
  ha H0 O H σ e _ fun v x H1 px r1 s1 => by
    refine ⟨by show 1 ≤ sizeLine; decide, fun p hp' => ?_⟩
    have sm : Same H1 (upd H1 p (.lst [v])) := fun b u z => by rw [upd_ne (ne_of_none z hp')]; exact z
    have al : BoAll c H1 [v] [x] := .cons (Res.bo e s1) .nil
    have fl : flatAll [x] = true := flatAll_mem fun d hd => by rw [List.mem_singleton.mp hd]; exact hx x px
    refine q _ _ _ ⟨x, rfl, px⟩ (r1.tr (Rr.same sm)) ⟨[p], .lst upd_same (FoAll.leaves fl (al.same sm)), by simp, fun a ha => ?_⟩
    cases List.mem_singleton.mp ha
    exact r1.back e.jH hp'
/-- f(stream, e) where e is one of several -/
theorem n_callN {pre : PreS} {E : XK} {st l : Addr} {P Pa : PyData → Prop} {m : Nat} (hc : c.so = some (st, l)) (hst : Γ[m]? = some (some (.r (.ref st)))) (h : EvN c ta Γ ka Pa) (hp : ∀ x, Pa x → pre [x] k P) :
    EvN c (tCall (spS c.K pre) [] E (tCons (tVar m) (tCons ta tNil))) Γ k P := fun H0 O H σ e Q q => by
  have hcc : c = sc c.K st l := by cases c; cases hc; rfl
  refine ⟨_, e.slotR hst, h H0 O H σ e _ fun v x H1 px r s => ?_⟩
  refine ⟨st, l, [v], [x], k, P, rfl, (e.on r).jH st l hc, by rw [← hcc]; exact .cons (Res.bo e s) .nil, hp x px, fun v d H2 pd r2 rt => ?_⟩
  rw [← hcc] at r2 rt
  refine q v d H2 pd (r.tr r2) ?_
  exact (Rt.res (e.on r) r2 rt).back e r
/-- f(stream, .., e) where the last one is one of several -/
theorem n_callN3 {pre : PreS} {E : XK} {st l : Addr} {P Pa : PyData → Prop} {m : Nat} (hc : c.so = some (st, l)) (hst : Γ[m]? = some (some (.r (.ref st)))) (hx : Ev c tx Γ kb x) (hy : Ev c tb Γ kb y) (h : EvN c ta Γ ka Pa) (hp : ∀ z, Pa z → pre [x, y, z] k P) :
    EvN c (tCall (spS c.K pre) [] E (tCons (tVar m) (tCons tx (tCons tb (tCons ta tNil))))) Γ k P := fun H0 O H σ e Q q => by
  have hcc : c = sc c.K st l := by cases c; cases hc; rfl
  refine ⟨_, e.slotR hst, hx H0 O H σ e _ fun v1 H1 r1 s1 => hy H0 O H1 σ (e.on r1) _ fun v2 H2 r2 s2 => h H0 O H2 σ ((e.on r1).on r2) _ fun v x H3 px r3 s3 => ?_⟩
  have r : Rr c H H3 := (r1.tr r2).tr r3
  refine ⟨st, l, [v1, v2, v], _, k, P, rfl, (e.on r).jH st l hc, by rw [← hcc]; exact .cons (Res.bo e (Res.on e r1 (r2.tr r3) s1)) (.cons (Res.bo (e.on r1) (Res.on (e.on r1) r2 r3 s2)) (.cons (Res.bo ((e.on r1).on r2) s3) .nil)), hp x px, fun v d H4 pd r4 rt => ?_⟩
  rw [← hcc] at r4 rt
  refine q v d H4 pd (r.tr r4) ?_
  exact (Rt.res (e.on r) r4 rt).back e r
/-- for .. in range(e), e one of several -/
theorem q_forRN {g : TG} {tb : TS} {Q : Int → Prop} (h : EvN c te Γ k (SomeI Q)) (hs : ∀ m, Q m → Sd c (tSeq (tFor (iRng1 (tCons (tC (.int m)) tNil)) g tb) u) Γ P) : Sd c (tSeq (tFor (iRng1 (tCons te tNil)) g tb) u) Γ P := fun H0 O H σ D e s =>
  h H0 O H σ e _ fun v d H1 ⟨m, ed, qm⟩ r1 s1 => by
    subst ed
    have w := hs m qm H0 O H1 σ D (e.on r1) s
    rw [(Res.bo e s1).int']
    exact w
end
def sp_are_allocations (K : PySem.W.Frag) : Sp := spD K fun ds k d => ∃ A v b, ds = [.tuple (A.map tupD), .int 10] ∧ Ser A v b ∧ k = .v ∧ d = .bool true
def sp_check_steps (K : PySem.W.Frag) : Sp := spD K fun ds k d => ∃ A v b, ds = [.tuple (A.map tupD)] ∧ Ser A v b ∧ k = .v ∧ d = .none
def sp_steps_of (K : PySem.W.Frag) : Sp := spD K fun ds k d => ∃ es : List PyData, (ds = [.tuple es] ∨ ds = [.list es]) ∧ flatAll es = true ∧ 1 ≤ es.length ∧ es.length ≤ 1000 ∧ k = .o ∧ d = .list (zipTs es (es.drop 1))
def losL (A : List (List Int)) (n : Nat) : List Int := (List.range n).map fun i => losC A i
def sp_decreases (K : PySem.W.Frag) : Sp := spD K fun ds k d => ∃ A v b, ds = [.tuple (A.map tupD)] ∧ Ser A v b ∧ k = .v ∧ d = .tuple ((losL A v.toNat).map .int)
def sp_overdrawn (K : PySem.W.Frag) : Sp := spD K fun ds k d => ∃ A v b, ds = [.tuple (A.map tupD)] ∧ Ser A v b ∧ k = .v ∧ d = natD (ovr A v.toNat)
def sp__law_nearA (K : PySem.W.Frag) : Sp := spS K fun ds k Q => ∃ (ns : List Int) (v b : Int), ds = [.tuple (ns.map .int)] ∧ Alc ns v b ∧ 1 ≤ v ∧ v ≤ 5 ∧ k = .v ∧ Q = fun d => ∃ ms : List Int, d = .tuple (ms.map .int) ∧ Alc ms v b
theorem fl_rows (A : List (List Int)) : flatAll (A.map tupD) = true := flatAll_mem fun d hd => by
  obtain ⟨r, _, rfl⟩ := List.mem_map.mp hd
  exact flatT r
theorem at_tup {A : List (List Int)} {j : Nat} (h : j < A.length) : atI (A.map tupD) (j : Int) = some (tupD (A.getD j [])) := atI_nat (by simp [h])
theorem at_tup1 {A : List (List Int)} {j : Nat} (h : j + 1 < A.length) : atI (A.map tupD) ((j : Int) + 1) = some (tupD (A.getD (j + 1) [])) := by
  have := at_tup (A := A) (j := j + 1) h
  exact this
theorem at_tupL {A : List (List Int)} (h : 1 ≤ A.length) : atI (A.map tupD) (-1) = some (tupD (A.getD (A.length - 1) [])) := by
  have e : A = A.dropLast ++ [A.getLast (by intro w; rw [w] at h; simp at h)] := (List.dropLast_concat_getLast _).symm
  have e2 : A.getD (A.length - 1) [] = A.getLast (by intro w; rw [w] at h; simp at h) := by
    rw [List.getD_eq_getElem?_getD, List.getLast_eq_getElem, List.getElem?_eq_getElem (by omega)]
    rfl
  rw [e2]
  have := at_lastI (A.dropLast.map tupD) (tupD (A.getLast (by intro w; rw [w] at h; simp at h)))
  rw [show A.dropLast.map tupD ++ [tupD (A.getLast (by intro w; rw [w] at h; simp at h))] = (A.dropLast ++ [A.getLast (by intro w; rw [w] at h; simp at h)]).map tupD by simp, ← e] at this
  exact this
theorem zipTs_rows (A : List (List Int)) : zipTs (A.map tupD) ((A.map tupD).drop 1) = (prs A).map fun p => .tuple [tupD p.1, tupD p.2] := by
  unfold zipTs prs
  rw [← List.map_drop, List.zip_map, List.map_map]
  rfl
theorem prs_len {α : Type} (A : List α) : (prs A).length = A.length - 1 := by simp [prs]
theorem Alc.mv {ns : List Int} {v b : Int} {i j : Nat} (h : Alc ns v b) (hi : i < ns.length) (hj : j < ns.length) (hp : 0 < ns.getD i 0) : Alc ((ns.set i (ns.getD i 0 - 1)).set j ((ns.set i (ns.getD i 0 - 1)).getD j 0 + 1)) v b := by
  have nn1 : ∀ n ∈ ns.set i (ns.getD i 0 - 1), 0 ≤ n := fun n hn => by
    rcases List.mem_or_eq_of_mem_set hn with w | w
    · exact h.nn n w
    · omega
  have sm : ∀ (l : List Int) (m : Nat) (x : Int), m < l.length → (l.set m x).sum = l.sum - l.getD m 0 + x := by
    intro l
    induction l with
    | nil => intro m x w; simp at w
    | cons a l ih =>
      intro m x w
      cases m with
      | zero => simp; omega
      | succ m => have := ih m x (by simpa using w); simp only [List.set_cons_succ, List.sum_cons, List.getD_cons_succ]; omega
  have l1 : j < (ns.set i (ns.getD i 0 - 1)).length := by simpa using hj
  refine ⟨by simp [h.len], ?_, fun n hn => ?_⟩
  · rw [sm _ _ _ l1, sm _ _ _ hi, h.sum]
    omega
  · rcases List.mem_or_eq_of_mem_set hn with w | w
    · exact nn1 n w
    · have : 0 ≤ (ns.set i (ns.getD i 0 - 1)).getD j 0 := by
        rw [List.getD_eq_getElem?_getD, List.getElem?_eq_getElem l1]
        exact nn1 _ (List.getElem_mem l1)
      omega
end Lm
namespace Lm
open PySem PySem.Spec PyProof.Rows L2
theorem i_seqL' {c : Ct} {Γ : List (Option Rs)} {tl : TE} {k : Kd} {ds : List PyData} {items : List Im} (h : Ev c tl Γ k (.list ds)) (hk : k ≠ .b) (e : ds.map Im.d = items) : EvI c (iSeq c.K tl) Γ true items := e ▸ i_seqL h hk
end Lm
namespace Lm
open PySem PySem.Spec PyProof.Rows L2
theorem i_seqB' {c : Ct} {Γ : List (Option Rs)} {tl : TE} {k : Kd} {ds : List PyData} {items : List Im} (h : Ev c tl Γ k (.list ds)) (hf : flatAll ds = true) (e : ds.map Im.d = items) : EvI c (iSeq c.K tl) Γ false items := e ▸ i_seqB h hf
theorem fl_prs (A : List (List Int)) : flatAll ((prs A).map fun p => PyData.tuple [tupD p.1, tupD p.2]) = true := flatAll_mem fun d hd => by
  obtain ⟨p, _, rfl⟩ := List.mem_map.mp hd
  simp [flatD, flatAll, flatAll_ints]
theorem fstT_mono {A : List (List Int)} {m n : Nat} {p : Nat × Nat} (h : m ≤ n) (e : fstT A m = some p) : fstT A n = some p := by
  induction n with
  | zero => have : m = 0 := by omega
            rw [← this]; exact e
  | succ n ih =>
    by_cases w : m = n + 1
    · rw [← w]; exact e
    · rw [fstT_succ, ih (by omega)]; rfl
theorem ovr_mono {A : List (List Int)} {m n i : Nat} (h : m ≤ n) (e : ovr A m = some i) : ovr A n = some i := by
  induction n with
  | zero => have : m = 0 := by omega
            rw [← this]; exact e
  | succ n ih =>
    by_cases w : m = n + 1
    · rw [← w]; exact e
    · rw [ovr_succ, ih (by omega)]; rfl
end Lm
namespace Lm
open PySem PySem.Spec PyProof.Rows L2
theorem i_rowsT {c : Ct} {Γ : List (Option Rs)} {tl : TE} {k : Kd} {l : List (List Int)} (h : Ev c tl Γ k (.tuple (l.map tupD))) (hk : k ≠ .b) : EvI c (iSeq c.K tl) Γ true (l.map tupI) := by
  have := i_seqT h hk
  rw [List.map_map] at this
  exact this
end Lm
namespace Lm
open PySem PySem.Spec PyProof.Rows L2
theorem i_rng1' {c : Ct} {Γ : List (Option Rs)} {tr : TA} {kv : Bool} {n : Int} {m : Nat} (h : EvA c tr Γ kv [.int n]) (hn : n ≤ 1000000) (hn' : -1000000 ≤ n) (e : n.toNat = m) : EvI c (iRng1 tr) Γ true ((upI 0 m).map fun i => Im.d (.int i)) := e ▸ i_rng1 h hn hn'
theorem prs_rng (A : List (List Int)) : prs A = (List.range (A.length - 1)).map fun i => (A.getD i [], A.getD (i + 1) []) := by
  apply List.ext_getElem
  · simp [prs]
  · intro i h1 h2
    have i1 : i + 1 < A.length := by rw [prs_len] at h1; omega
    have i0 : i < A.length := by omega
    simp [prs, List.getD_eq_getElem?_getD, i0, i1, Nat.add_comm]
end Lm


/-! assignments in order of their variants; small series -/
namespace Lm
open PySem PySem.Spec PyProof.Rows L2
theorem take_one {ns : List Int} {n : Nat} (h : n < ns.length) : ns.take (n + 1) = ns.take n ++ [ns.getD n 0] := by
  rw [List.take_add_one, List.getElem?_eq_getElem h, List.getD_eq_getElem?_getD, List.getElem?_eq_getElem h]
  rfl
theorem rep_int (m : Nat) (x : Int) : (List.replicate m [PyData.int x]).flatten = (List.replicate m x).map PyData.int := by
  rw [List.flatten_replicate_singleton, List.map_replicate]
/-- a series, and how long at most -/
def sp__law_seriesN (K : PySem.W.Frag) : Sp := spS K fun ds k Q => ∃ v b n N : Int, ds = [.int v, .int b, .int n] ∧ 1 ≤ v ∧ v ≤ 5 ∧ 0 ≤ b ∧ b ≤ 20 ∧ 1 ≤ n ∧ n ≤ 10 ∧ n ≤ N ∧ k = .v ∧ Q = fun d => ∃ A, d = .tuple (A.map tupD) ∧ Ser A v b ∧ (A.length : Int) ≤ N
end Lm


/-! __init__ of an exception class two below ValueError: super().__init__(..) and what stands behind it -/
namespace PySem.W
open PySem PySem.Calls PyProof.Rows PyProof.V PySem.Spec
end PySem.W
namespace Lm
open PySem PySem.Spec PyProof.Rows L2
end Lm


/-! tuple * int, any int from 0 on -/
namespace L2
open PySem PySem.Spec PyProof.Rows
end L2
namespace Lm
open PySem PySem.Spec PyProof.Rows L2
section
variable {X : Cx}
end
end Lm
namespace Lm
open PySem PySem.Spec PyProof.Rows L2
section
variable {X : Cx} {K : PySem.W.Frag} (hK : X.K = K)
include hK
end
section
variable {c : Ct} {Γ : List (Option Rs)} {ta tb : TE} {ka kb : Kd} {ds : List PyData} {i : Int}
end
end Lm


/-! intervals: one variant after another -/
namespace Lm
open PySem PySem.Spec PyProof.Rows L2
/-- the assignment by intervals -/
def runL (as os : List Int) : List Int := os.flatMap fun o => List.replicate (gI as o).toNat o
theorem runL_cons {as os : List Int} {o : Int} : runL as (o :: os) = List.replicate (gI as o).toNat o ++ runL as os := rfl
theorem runL_snoc {as os : List Int} {o : Int} : runL as (os ++ [o]) = runL as os ++ List.replicate (gI as o).toNat o := by
  unfold runL; rw [List.flatMap_append]; simp
theorem runL_mem {as os : List Int} {x : Int} (h : x ∈ runL as os) : x ∈ os := by
  obtain ⟨o, ho, hx⟩ := List.mem_flatMap.mp h
  rw [(List.mem_replicate.mp hx).2]; exact ho
def shL (as os : List Int) : List Int := os.map (gI as)
theorem gI_nn {as : List Int} (h : ∀ n ∈ as, 0 ≤ n) (o : Int) : 0 ≤ gI as o := by
  unfold gI
  rw [List.getD_eq_getElem?_getD]
  cases e : as[o.toNat]? with
  | none => simp
  | some x => simpa using h x (List.mem_of_getElem? e)
theorem runL_len {as : List Int} (h : ∀ n ∈ as, 0 ≤ n) : ∀ os : List Int, ((runL as os).length : Int) = (shL as os).sum
  | [] => rfl
  | o :: os => by
    have := runL_len h os
    have := gI_nn h o
    rw [runL_cons, List.length_append, List.length_replicate]
    simp only [shL, List.map_cons, List.sum_cons] at *
    omega
theorem shL_sum {as os : List Int} {v b : Int} (h : Alc as v b) (o : IsOrd os v) : (shL as os).sum = b := by
  have hl : os.length = as.length := by have := h.len; have := o.len; omega
  have p : (shL as (upI 0 os.length)).sum = (shL as os).sum := perm_sum (o.perm.map _)
  rw [← p, ← h.sum, ← sum_range (ns := as), hl]
  unfold shL upI gI
  rw [List.map_map]
  congr 1
  apply List.map_congr_left
  intro j hj
  show as.getD (0 + (j : Int)).toNat 0 = as.getD j 0
  rw [Int.zero_add, Int.toNat_natCast]
theorem runL_asg {as os : List Int} {v b : Int} (h : Alc as v b) (o : IsOrd os v) (hb : b ≤ 20) : Asg (runL as os) v := by
  have := runL_len h.nn os
  rw [shL_sum h o] at this
  exact ⟨by omega, fun n hn => o.rng n (runL_mem hn)⟩
theorem runL_length {as os : List Int} {v b : Int} (h : Alc as v b) (o : IsOrd os v) : ((runL as os).length : Int) = b := by
  rw [runL_len h.nn, shL_sum h o]
/-! promises -/
def sp_one_after_another (K : PySem.W.Frag) : Sp := spD K fun ds k d => ∃ (as os : List Int) (v b : Int), ds = [.tuple (as.map .int), .tuple (os.map .int)] ∧ Alc as v b ∧ IsOrd os v ∧ v ≤ 1000 ∧ b ≤ 1000 ∧ k = .v ∧ d = .tuple ((runL as os).map .int)
end Lm


/-! readings that the intervals want -/
namespace Lm
open PySem PySem.Spec PyProof.Rows L2
theorem ord_at {os : List Int} {v : Int} (o : IsOrd os v) {n : Nat} {a : Im} (h : (os.map imI)[n]? = some a) : ∃ (hn : n < os.length) (j : Nat), (j : Int) < v ∧ os.getD n 0 = (j : Int) ∧ a = imI (j : Int) := by
  have hn : n < os.length := by have := (List.getElem?_eq_some_iff.mp h).1; simpa using this
  rw [List.getElem?_map, List.getElem?_eq_getElem hn] at h
  have r := o.rng _ (List.getElem_mem hn)
  obtain ⟨j, e⟩ := Int.eq_ofNat_of_zero_le r.1
  refine ⟨hn, j, by omega, ?_, ?_⟩
  · rw [List.getD_eq_getElem?_getD, List.getElem?_eq_getElem hn]; exact e
  · rw [← e]; exact (Option.some.inj h).symm
theorem runL_take {as os : List Int} (n : Nat) : (runL as (os.take n)).length ≤ (runL as os).length := by
  have e : runL as os = runL as (os.take n) ++ runL as (os.drop n) := by
    conv => lhs; rw [← List.take_append_drop n os]
    unfold runL; rw [List.flatMap_append]
  rw [e, List.length_append]; omega
theorem Asg.up {ns : List Int} {v w : Int} (h : Asg ns v) (hw : v ≤ w) : Asg ns w := ⟨h.len, fun n hn => ⟨(h.rng n hn).1, by have := (h.rng n hn).2; omega⟩⟩
section
variable {c : Ct} {H H' H0 H1 H2 H3 : Hp} {O : List Addr} {Γ Γ' Γ1 : List (Option Rs)}
variable {te ta tb tx ty : TE} {k ka kb kc : Kd} {d x y z : PyData}
end
end Lm


/-! all assignments of an allocation, in order; the one whose places ascend -/
namespace Lm
open PySem PySem.Spec PyProof.Rows L2
theorem nodup_sub {α : Type} [DecidableEq α] : ∀ {l m : List α}, l.Nodup → (∀ x ∈ l, x ∈ m) → l.length ≤ m.length
  | [], _, _, _ => Nat.zero_le _
  | a :: l, m, nd, h => by
    have nd' := List.nodup_cons.mp nd
    have ha := h a (by simp)
    have ih := nodup_sub (m := m.erase a) nd'.2 fun x hx => (List.mem_erase_of_ne (fun z => nd'.1 (by rw [← z]; exact hx))).mpr (h x (by simp [hx]))
    rw [List.length_erase_of_mem ha] at ih
    have := List.length_pos_of_mem ha
    simp only [List.length_cons]; omega
theorem perm_of_count {r m : List Int} (hc : ∀ x, r.count x ≤ m.count x) (hl : m.length ≤ r.length) : r.Perm m := by
  induction r generalizing m with
  | nil =>
    have : m = [] := List.eq_nil_of_length_eq_zero (by simpa using hl)
    rw [this]
  | cons a r ih =>
    have ha : a ∈ m := by
      have := hc a
      rw [List.count_cons_self] at this
      exact List.count_pos_iff.mp (by omega)
    refine (List.Perm.cons a (ih (m := m.erase a) (fun x => ?_) ?_)).trans (List.perm_cons_erase ha).symm
    · have h1 := hc x
      rw [List.count_erase]
      by_cases e : a = x
      · subst e
        rw [List.count_cons_self] at h1
        simp; omega
      · rw [List.count_cons_of_ne e] at h1
        rw [if_neg (by simpa using e)]; omega
    · rw [List.length_erase_of_mem ha]
      simp only [List.length_cons] at hl; omega
/-- what may come behind r -/
def nxtA (as r : List Int) : List Int := (upI 0 as.length).filter fun x => decide ((r.count x : Int) < gI as x)
def asgN (as : List Int) : Nat → List (List Int)
  | 0 => [[]]
  | n + 1 => (asgN as n).flatMap fun r => (nxtA as r).map fun x => r ++ [x]
theorem mem_asgN {as : List Int} (nn : ∀ n ∈ as, 0 ≤ n) : ∀ (n : Nat) (r : List Int), r ∈ asgN as n ↔ r.length = n ∧ (∀ x ∈ r, 0 ≤ x ∧ x < as.length) ∧ ∀ x, (r.count x : Int) ≤ gI as x
  | 0, r => by
    constructor
    · intro h
      have : r = [] := by simpa [asgN] using h
      subst this
      exact ⟨rfl, fun _ h => (nomatch h), fun x => by have := gI_nn nn x; simpa using this⟩
    · rintro ⟨h, _⟩
      rw [List.eq_nil_of_length_eq_zero h]
      simp [asgN]
  | n + 1, r => by
    unfold asgN
    rw [List.mem_flatMap]
    constructor
    · rintro ⟨q, hq, h⟩
      obtain ⟨x, hx, rfl⟩ := List.mem_map.mp h
      obtain ⟨h1, h2, h3⟩ := (mem_asgN nn n q).mp hq
      obtain ⟨hx1, hx2⟩ := List.mem_filter.mp hx
      have hx3 := of_decide_eq_true hx2
      have hx4 := mem_upI.mp hx1
      refine ⟨by simp [h1], fun y hy => ?_, fun y => ?_⟩
      · rcases List.mem_append.mp hy with w | w
        · exact h2 y w
        · rw [List.mem_singleton.mp w]; exact hx4
      · rw [List.count_append]
        by_cases e : x = y
        · subst e
          simp only [List.count_cons_self, List.count_nil]; omega
        · rw [List.count_cons_of_ne e, List.count_nil]
          exact h3 y
    · rintro ⟨h1, h2, h3⟩
      have hne : r ≠ [] := fun z => by rw [z] at h1; simp at h1
      have el := List.dropLast_concat_getLast hne
      obtain ⟨q, eq⟩ : ∃ q, q = r.dropLast := ⟨_, rfl⟩
      obtain ⟨x, ex⟩ : ∃ x, x = r.getLast hne := ⟨_, rfl⟩
      rw [← eq, ← ex] at el
      have cx : ∀ y, r.count y = q.count y + [x].count y := fun y => by rw [← el, List.count_append]
      have xr : x ∈ r := by rw [← el]; simp
      refine ⟨q, (mem_asgN nn n q).mpr ⟨by rw [eq, List.length_dropLast]; omega, fun y hy => h2 y (by rw [← el]; simp [hy]), fun y => by have := h3 y; have := cx y; omega⟩, List.mem_map.mpr ⟨x, List.mem_filter.mpr ⟨mem_upI.mpr (h2 x xr), decide_eq_true ?_⟩, el⟩⟩
      have a1 := h3 x
      have a2 := cx x
      rw [List.count_cons_self, List.count_nil] at a2
      omega
theorem asgN_pw (as : List Int) : ∀ n, (asgN as n).Pairwise lexLt
  | 0 => List.pairwise_singleton ..
  | n + 1 => by
    unfold asgN
    rw [List.pairwise_flatMap]
    refine ⟨fun r _ => ?_, (asgN_pw as n).imp fun {a b} h x hx y hy => ?_⟩
    · rw [List.pairwise_map]
      exact ((upI_pw _).sublist List.filter_sublist).imp fun h => lexLt_last h
    · obtain ⟨i, _, rfl⟩ := List.mem_map.mp hx
      obtain ⟨j, _, rfl⟩ := List.mem_map.mp hy
      exact lexLt_app h
theorem asgN_small {as : List Int} (nn : ∀ n ∈ as, 0 ≤ n) (hl : as.length ≤ 5) {n : Nat} (hn : n ≤ 6) : (asgN as n).length ≤ 15625 := by
  refine Nat.le_trans (nodup_sub (m := allL (as.length : Int) n) (pw_nodup (asgN_pw as n)) fun r hr => ?_) (allL_small5 (by omega) hn)
  obtain ⟨h1, h2, _⟩ := (mem_asgN nn n r).mp hr
  exact (mem_allL (by omega) n r).mpr ⟨h1, h2⟩
/-- the places that ascend -/
theorem runL_count {as : List Int} (nn : ∀ n ∈ as, 0 ≤ n) : ∀ {os : List Int}, os.Nodup → ∀ o, ((runL as os).count o : Int) = if o ∈ os then gI as o else 0
  | [], _, o => by simp [runL]
  | p :: os, nd, o => by
    have nd' := List.nodup_cons.mp nd
    have ih := runL_count nn nd'.2 o
    have g0 := gI_nn nn o
    rw [runL_cons, List.count_append, List.count_replicate, Int.natCast_add, ih]
    by_cases e : p = o
    · subst e
      rw [if_neg nd'.1, if_pos (by simp), if_pos (by simp)]; omega
    · rw [if_neg (by simpa using e), Int.natCast_zero, Int.zero_add]
      by_cases m : o ∈ os
      · rw [if_pos m, if_pos (by simp [m])]
      · rw [if_neg m, if_neg (fun z => by rcases List.mem_cons.mp z with w | w; exact e w.symm; exact m w)]
section
variable {c : Ct} {Γ : List (Option Rs)} {te : TE} {k : Kd}
end
def sp__law_assignmentsA (K : PySem.W.Frag) : Sp := spD K fun ds k d => ∃ (as : List Int) (v b : Int), ds = [.tuple (as.map .int)] ∧ Alc as v b ∧ 1 ≤ v ∧ v ≤ 5 ∧ b ≤ 6 ∧ k = .o ∧ d = .list ((asgN as b.toNat).map tupD)
end Lm


/-! t[::-1] of a tuple -/
namespace HT
open PySem PySem.W PySem.Calls PyProof.Rows
end HT
namespace Lm
open PySem PySem.Spec PyProof.Rows L2
section
variable {prog : Program} {w : World} {A : Around} {E : Value → Shared → Prop} {s : Shared}
end
section
variable {c : Ct} {Γ : List (Option Rs)} {te : TE} {ds : List PyData}
end
end Lm


/-! intervals: bounds of their churn, and when nothing is wasted -/
namespace Lm
open PySem PySem.Spec PyProof.Rows L2
variable {as cs os : List Int} {v b : Int}
theorem runL_counts (h : Alc as v b) (o : IsOrd os v) : countsI (runL as os) v = as := by
  have hl := h.len
  apply List.ext_getElem
  · simp [countsI, upI]; omega
  · intro j h1 h2
    have hj : (j : Int) < v := by omega
    have e := countsI_get (ns := runL as os) hj
    rw [List.getD_eq_getElem?_getD, List.getElem?_eq_getElem h1] at e
    have e' : (countsI (runL as os) v)[j] = ((runL as os).count (j : Int) : Int) := e
    rw [e', runL_count h.nn o.nd, if_pos (o.mem (by omega) hj)]
    simp [gI, h2]
/-! the other bound -/
/-! both ways, and backwards -/
/-! when nothing is wasted -/
end Lm


/-! the first history: each step's first change is the least one -/
namespace Lm
open PySem PySem.Spec PyProof.Rows L2
variable {v b : Int} {A T : List (List Int)} {as f r : List Int} {n : Nat}
theorem asgN_cnt (h : Alc as v b) (hr : r ∈ asgN as b.toNat) : (r.length : Int) = b ∧ (∀ x ∈ r, 0 ≤ x ∧ x < v) ∧ countsI r v = as := by
  obtain ⟨h1, h2, h3⟩ := (mem_asgN h.nn _ r).mp hr
  have hl := h.len
  have o := ord_upI (m := v) (by omega)
  have rl := runL_length h o
  have b0 : 0 ≤ b := by rw [← h.sum]; exact sum_nn h.nn
  have cle : ∀ x, r.count x ≤ (runL as (upI 0 v.toNat)).count x := fun x => by
    have c1 := runL_count h.nn o.nd x
    by_cases m : x ∈ upI 0 v.toNat
    · rw [if_pos m] at c1
      have := h3 x
      omega
    · rw [List.count_eq_zero_of_not_mem fun z => m (o.mem (h2 x z).1 (by have := (h2 x z).2; omega))]; omega
  have sp : r.Perm (runL as (upI 0 v.toNat)) := perm_of_count cle (by omega)
  refine ⟨by omega, fun x hx => ⟨(h2 x hx).1, by have := (h2 x hx).2; omega⟩, ?_⟩
  rw [← runL_counts h o]
  unfold countsI
  apply List.map_congr_left
  intro i _
  rw [sp.count_eq]
theorem asgN_of (h : Alc as v b) (h1 : (r.length : Int) = b) (h2 : ∀ x ∈ r, 0 ≤ x ∧ x < v) (h3 : countsI r v = as) : r ∈ asgN as b.toNat := by
  have hl := h.len
  refine (mem_asgN h.nn _ _).mpr ⟨by omega, fun x hx => ⟨(h2 x hx).1, by have := (h2 x hx).2; omega⟩, fun x => ?_⟩
  by_cases m : x ∈ r
  · obtain ⟨x0, x1⟩ := h2 x m
    obtain ⟨j, rfl⟩ := Int.eq_ofNat_of_zero_le x0
    have := countsI_get (ns := r) x1
    rw [h3] at this
    unfold gI
    rw [Int.toNat_natCast, this]
    exact Int.le_refl _
  · rw [List.count_eq_zero_of_not_mem m]
    exact gI_nn h.nn x
theorem lexLt_no : ∀ {as bs : List Int}, lexLt as bs → lexLe bs as → False
  | [], _, h, _ => h
  | _ :: _, [], h, _ => h
  | a :: as, b :: bs, h, g => by
    unfold lexLt at h
    unfold lexLe at g
    rcases h with h | ⟨e, h⟩
    · rcases g with g | ⟨_, _⟩ <;> omega
    · rcases g with g | ⟨_, g⟩
      · omega
      · exact lexLt_no h g
/-- the rows of the first history -/
def rowH (v : Int) (A : List (List Int)) : Nat → List Int
  | 0 => runL (A.getD 0 []) (upI 0 v.toNat)
  | n + 1 => firstI (s0I v (rowH v A n) (A.getD (n + 1) [])) (rowH v A n)
theorem row_ok (h : Ser A v b) : ∀ {n : Nat}, n < A.length → Asg (rowH v A n) v ∧ ((rowH v A n).length : Int) = b ∧ countsI (rowH v A n) v = A.getD n []
  | 0, h0 => by
    have v1 := h.v1
    have o := ord_upI (m := v) (by omega)
    have a := h.at h0
    exact ⟨runL_asg a o h.b20, runL_length a o, runL_counts a o⟩
  | n + 1, hn => by
    have v1 := h.v1
    obtain ⟨h1, h2, h3⟩ := row_ok h (n := n) (by omega)
    have a := h.at hn
    have a' : Alc (A.getD (n + 1) []) v (rowH v A n).length := by rw [h2]; exact a
    have kl := (fit_lst h1 a' (by omega)).mp (first_fit (st0 h1 a' (by omega)))
    exact ⟨kl.asg, by show ((firstI _ _).length : Int) = b; rw [kl.len]; exact h2, kl.cnt⟩
/-- rows of the allocations' sizes -/
structure Tab (T A : List (List Int)) (v b : Int) : Prop where
  ser : Ser A v b
  len : T.length = A.length
  asg : ∀ t ∈ T, Asg t v ∧ (t.length : Int) = b
theorem Tab.at (h : Tab T A v b) (hn : n < A.length) : Asg (T.getD n []) v ∧ ((T.getD n []).length : Int) = b := by
  have := h.len
  have e : T.getD n [] = T[n] := by simp [List.getD_eq_getElem?_getD, show n < T.length by omega]
  rw [e]
  exact h.asg _ (List.getElem_mem (by omega))
/-- how often each bucket changes -/
def chgL (T : List (List Int)) (m : Nat) : List Int := (List.range m).map fun i => (((prs T).countP fun p => !decide (p.1.getD i 0 = p.2.getD i 0) : Nat) : Int)
def tTupRn (te : L2.St → Hp → (Int → Int → Hp → Prop) → Prop) : TE := fun σ H Q => te σ H fun a z H1 => RgOk a z ∧ NewT H1 (rgV a z) Q
theorem pe_tupRn {X : Cx} {e : Expr} {te : L2.St → Hp → (Int → Int → Hp → Prop) → Prop} {p pos : Pos} (hc : X.calm = true) (hg : Gl X "tuple") (hm : X.mg "tuple" = none) (he : PRg X e te) (na : starEach [e] X.env = (false, eval e X.env) :: starEach [] X.env := by rfl) :
    PE X (.Call (.Name "tuple" p) [e] [] pos) (tTupRn te) := by
  refine ⟨fun pins s σ H Q I h => Call_ (ld_blt I hg hm boot_tuple (PyProof.Rows.callWith_type1 (args_cons (thn (he pins s σ H _ I h) fun x s1 ⟨r, a, z, t, u, v, H1, ex, hr, I1, ok, q⟩ => args_nil ?_) na) na))⟩
  obtain ⟨z1, z2, z3, z4, z5⟩ := ok
  rw [ex]
  refine call_tuple_range (n := (z - a).toNat) (I1.ok.hd hc) hr (small_one z1 z2 z3 z4) (rangeSize_nat a z) z5 fun h' tk acc hk hi => ?_
  have I2 : Inv X pins σ H1 { s1 with heap := h', toks := tk } := I1.kept hk
  have w := newT I2 (vals_rg hi) (by rw [rgV_length, sizeLine_eq]; omega) q
  rwa [Array.toArray_toList] at w
section
variable {c : Ct} {H H' H0 H1 H2 H3 : Hp} {O : List Addr} {Γ Γ' Γ1 : List (Option Rs)} {te : TE} {k : Kd} {i : Int}
/-- tuple(range(n)) -/
theorem e_tupRg (h : Ev c te Γ k (.int i)) (h0 : 0 ≤ i) (h1 : i ≤ 1000000) : Ev c (tTupRn (tRg1 te)) Γ .v (.tuple ((upI 0 i.toNat).map .int)) := fun H0 O H σ e Q q =>
  h H0 O H σ e _ fun v H1 r s => ⟨i, (Res.bo e s).int', .of_le (by decide) (by omega) (by decide) h0, newTk (c := c) fun p' H4 hp sm tp => by
    have r4 : Rr c H H4 := r.tr (Rr.same sm)
    rw [rgV_upI] at tp
    exact q _ H4 r4 (.tup (tpN_mns e r4 tp) (BoAll.ofInts _))⟩
end
/-! of lists -/
def sp_ascendingR (K : PySem.W.Frag) : Sp := spD K fun ds k d => ∃ (ns : List Int) (v b : Int), ds = [.tuple (ns.map .int)] ∧ Alc ns v b ∧ 1 ≤ v ∧ v ≤ 1000 ∧ b ≤ 1000 ∧ k = .v ∧ d = .tuple ((runL ns (upI 0 v.toNat)).map .int)
def sp__law_sortedR (K : PySem.W.Frag) : Sp := spD K fun ds k d => ∃ (ns : List Int) (v b : Int), ds = [.tuple (ns.map .int)] ∧ Alc ns v b ∧ 1 ≤ v ∧ v ≤ 1000 ∧ b ≤ 1000 ∧ k = .v ∧ d = .tuple ((runL ns (upI 0 v.toNat)).map .int)
def sp__law_changes (K : PySem.W.Frag) : Sp := spD K fun ds k d => ∃ (T : List (List Int)) (m : Nat), ds = [.tuple (T.map tupD)] ∧ 1 ≤ T.length ∧ T.length ≤ 1000 ∧ m ≤ 1000 ∧ (∀ t ∈ T, t.length = m) ∧ k = .v ∧ d = .tuple ((chgL T m).map .int)
end Lm


/-! itertools.combinations(range(n), k), walked -/
namespace CmbK
open PySem PySem.Spec PyProof.Rows L2
/-- the iterator: its items' tuple, 0 before the first item, 1 behind it, 2 at the end; what it handed out; the places -/
def cells (T : Addr) (st : Int) (bf : Value) (ks : List Nat) : Array Value := ([.ref T, .int st 0, bf] ++ ks.map fun (i : Nat) => Value.int i 0).toArray
end CmbK


/-! itertools.combinations(range(n), k): made, its turns -/
namespace CmbK
open PySem PySem.Spec PyProof.Rows L2
end CmbK


/-! itertools.combinations: its turns -/
namespace CmbK
open PySem PySem.Spec PyProof.Rows L2
/-- the items at these places -/
def picks (xs : Array Value) (ks : List Nat) : List Value := ks.map fun i => xs.getD i .none
section
variable {prog : Program} {w : World} {A : Around} {E : Value → Shared → Prop} {s : Shared} {it T : Addr} {bf : Value} {ks : List Nat} {xs : Array Value}
/-- StopIteration -/
theorem stops {Q : Fin → Shared → Prop} (hh : A.handled = none) (hE : ∀ e h', (∀ c o, s.heap.get? c = some o → h'.get? c = some o) → (∃ o, h'.get? e = some o ∧ o.cls = .type "StopIteration") → E (.ref e) { s with heap := h' }) :
    wpAny (model prog w) A (Builtin.Itertools.itStop (α := Fin)) Q E s := by
  unfold Builtin.Itertools.itStop
  refine wpAny_bind ?_
  simp only [newExc, newTuple]
  refine wpAny_bind (wpAny_newObj_type ?_ (by size_fits))
  refine wpAny_bind (m := firstArgMember _ _) (wpAny_of_eq (a := Value.none) (by first | rfl | (simp only [firstArgMember]; rfl)) ?_)
  refine wpAny_newObj_type ?_ (by size_fits)
  simp only [raiseNew]
  refine wpAny_bind (wpAny_handled ?_)
  rw [hh]
  refine wpAny_bind (wpAny_pure (wpAny_throw ?_))
  exact hE _ _ (fun c o q => Heap.get?_push_of_some _ (Heap.get?_push_of_some _ q)) ⟨_, Heap.get?_push_size _ rfl, rfl⟩
end
end CmbK


/-! the places that combinations hands out -/
namespace Lm
open PySem PySem.Spec PyProof.Rows L2 CmbK
def cmbL : List Nat → Nat → List (List Nat)
  | _, 0 => [[]]
  | [], _ + 1 => []
  | a :: l, k + 1 => (cmbL l k).map (a :: ·) ++ cmbL l (k + 1)
def cmbs (n k : Nat) : List (List Nat) := cmbL (List.range n) k
end Lm


/-! families of shares: the promises -/
namespace Lm
open PySem PySem.Spec PyProof.Rows L2
/-- a share of each variant but the control -/
structure Shr (r : List Int) (v : Int) : Prop where
  len : (r.length : Int) = v - 1
  nn : ∀ x ∈ r, 0 ≤ x
  sum : r.sum ≤ 10
theorem Shr.le {r : List Int} {v : Int} (h : Shr r v) : ∀ x ∈ r, x ≤ 10 := fun x hx => by
  have := le_sum h.nn x hx
  have := h.sum
  omega
end Lm


/-! == of plain data, forms of data, a drawn test behind a plain one -/
namespace Lm
open PySem PySem.Spec PyProof.Rows L2
mutual
/-- no truth values, no dicts: == is being equal -/
def plD : PyData → Bool
  | .none => true
  | .int _ => true
  | .str _ => true
  | .list ds => plAll ds
  | .tuple ds => plAll ds
  | _ => false
def plAll : List PyData → Bool
  | [] => true
  | d :: ds => plD d && plAll ds
end
theorem pl_mem {ds : List PyData} (h : ∀ d ∈ ds, plD d = true) : plAll ds = true := by
  induction ds with
  | nil => rfl
  | cons d ds ih =>
    show (plD d && plAll ds) = true
    rw [h d (by simp), ih fun e he => h e (by simp [he])]
    rfl
theorem pl_ints (ns : List Int) : plAll (ns.map PyData.int) = true := pl_mem fun d hd => by
  obtain ⟨n, _, rfl⟩ := List.mem_map.mp hd
  rfl
theorem pl_tup (ns : List Int) : plD (tupD ns) = true := pl_ints ns
mutual
theorem eqv_pl : ∀ {x y : PyData}, plD x = true → plD y = true → (PyData.eqv x y = true ↔ x = y)
  | .none, .none, _, _ => by simp [PyData.eqv]
  | .int i, .int j, _, _ => by simp [PyData.eqv]
  | .str i, .str j, _, _ => by simp [PyData.eqv]
  | .list xs, .list ys, h, g => by
    have := eqv_plA (xs := xs) (ys := ys) h g
    simp only [PyData.eqv, this, PyData.list.injEq]
  | .tuple xs, .tuple ys, h, g => by
    have := eqv_plA (xs := xs) (ys := ys) h g
    simp only [PyData.eqv, this, PyData.tuple.injEq]
  | .none, .int _, _, _ | .none, .str _, _, _ | .none, .list _, _, _ | .none, .tuple _, _, _ => by simp [PyData.eqv]
  | .int _, .none, _, _ | .int _, .str _, _, _ | .int _, .list _, _, _ | .int _, .tuple _, _, _ => by simp [PyData.eqv]
  | .str _, .none, _, _ | .str _, .int _, _, _ | .str _, .list _, _, _ | .str _, .tuple _, _, _ => by simp [PyData.eqv]
  | .list _, .none, _, _ | .list _, .int _, _, _ | .list _, .str _, _, _ | .list _, .tuple _, _, _ => by simp [PyData.eqv]
  | .tuple _, .none, _, _ | .tuple _, .int _, _, _ | .tuple _, .str _, _, _ | .tuple _, .list _, _, _ => by simp [PyData.eqv]
  | .bool _, _, h, _ | .dict _, _, h, _ => by simp [plD] at h
  | .none, .bool _, _, g | .none, .dict _, _, g | .int _, .bool _, _, g | .int _, .dict _, _, g | .str _, .bool _, _, g | .str _, .dict _, _, g | .list _, .bool _, _, g | .list _, .dict _, _, g | .tuple _, .bool _, _, g | .tuple _, .dict _, _, g => by simp [plD] at g
theorem eqv_plA : ∀ {xs ys : List PyData}, plAll xs = true → plAll ys = true → (PyData.eqvAll xs ys = true ↔ xs = ys)
  | [], [], _, _ => by simp [PyData.eqvAll]
  | [], _ :: _, _, _ => by simp [PyData.eqvAll]
  | _ :: _, [], _, _ => by simp [PyData.eqvAll]
  | x :: xs, y :: ys, h, g => by
    have h' : (plD x && plAll xs) = true := h
    have g' : (plD y && plAll ys) = true := g
    rw [Bool.and_eq_true] at h' g'
    have e1 := eqv_pl (x := x) (y := y) h'.1 g'.1
    have e2 := eqv_plA (xs := xs) (ys := ys) h'.2 g'.2
    simp only [PyData.eqvAll, Bool.and_eq_true, e1, e2, List.cons.injEq]
end
theorem eqv_rf {x : PyData} (h : plD x = true) : PyData.eqv x x = true := (eqv_pl h h).mpr rfl
/-- data of a depth of at most n, all of it to be compared -/
def Sh (n : Nat) (d : PyData) : Prop := d.canLay0 = true ∧ d.depth ≤ n
theorem Sh.ok {n : Nat} {d : PyData} (h : Sh n d) (hn : n ≤ 64) : SeqAt.shaped d = true := by
  unfold SeqAt.shaped
  rw [h.1, decide_eq_true (by have := h.2; omega)]
  rfl
theorem Sh.up {n m : Nat} {d : PyData} (h : Sh n d) (hn : n ≤ m) : Sh m d := ⟨h.1, Nat.le_trans h.2 hn⟩
section
variable {c : Ct} {Γ : List (Option Rs)} {ta tb : TE} {tt tu : TT} {ka kb : Kd} {d e : PyData} {a : Bool}
end
end Lm


/-! rules: the mathematics -/
namespace Lm
open PySem PySem.Spec PyProof.Rows L2
abbrev Pr := List Int × List Int
/-- an allocation and an assignment of it -/
structure OkP (p : Pr) (v b : Int) : Prop where
  alc : Alc p.1 v b
  len : (p.2.length : Int) = b
  rng : ∀ x ∈ p.2, 0 ≤ x ∧ x < v
  cnt : countsI p.2 v = p.1
theorem OkP.asg {p : Pr} {v b : Int} (h : OkP p v b) (hb : b ≤ 20) : Asg p.2 v := ⟨by have := h.len; omega, h.rng⟩
/-! the first of three places -/
/-! lists give the variants their buckets -/
theorem getD_setI {r : List Int} {i j : Nat} {x : Int} (hi : i < r.length) : (r.set i x).getD j 0 = if i = j then x else r.getD j 0 := by
  simp only [List.getD_eq_getElem?_getD, List.getElem?_set]
  split
  · rename_i h
    subst h
    simp [hi]
  · rfl
theorem gL_mem {Ls : List (List Int)} {i : Nat} (h : i < Ls.length) : Ls.getD i [] ∈ Ls := by
  rw [List.getD_eq_getElem?_getD, List.getElem?_eq_getElem h]
  exact List.getElem_mem h
end Lm


/-! drawn assignments of an allocation; drawn tests -/
namespace Lm
open PySem PySem.Spec PyProof.Rows L2
structure Drw (as : List Int) (lf acc : List Int) (n : Nat) : Prop where
  len : lf.length = as.length
  al : acc.length = n
  nn : ∀ x ∈ lf, 0 ≤ x
  rng : ∀ x ∈ acc, 0 ≤ x ∧ x < (as.length : Int)
  cnt : ∀ i < as.length, (acc.count (i : Int) : Int) + lf.getD i 0 = as.getD i 0
  sum : lf.sum + (n : Int) = as.sum
theorem sum_setX : ∀ {l : List Int} {i : Nat} {x : Int}, i < l.length → (l.set i x).sum = l.sum - l.getD i 0 + x
  | [], _, _, h => by simp at h
  | a :: l, 0, x, _ => by simp only [List.set_cons_zero, List.sum_cons, List.getD_cons_zero]; omega
  | a :: l, i + 1, x, h => by
    have := sum_setX (l := l) (i := i) (x := x) (by simpa using h)
    simp only [List.set_cons_succ, List.sum_cons, List.getD_cons_succ]
    omega
theorem Drw.step {as lf acc : List Int} {n i : Nat} (h : Drw as lf acc n) (hi : i < as.length) (hp : 0 < lf.getD i 0) : Drw as (lf.set i (lf.getD i 0 - 1)) (acc ++ [(i : Int)]) (n + 1) := by
  have hl := h.len
  refine ⟨by simpa using hl, by simp [h.al], fun x hx => ?_, fun x hx => ?_, fun j hj => ?_, ?_⟩
  · rcases List.mem_or_eq_of_mem_set hx with w | w
    · exact h.nn x w
    · omega
  · rcases List.mem_append.mp hx with w | w
    · exact h.rng x w
    · rw [List.mem_singleton.mp w]; omega
  · have hc := h.cnt j hj
    rw [getD_setI (by omega), List.count_append]
    by_cases e : i = j
    · subst e
      have c1 : List.count (i : Int) [(i : Int)] = 1 := by simp
      rw [if_pos rfl, c1]
      omega
    · have c1 : List.count (j : Int) [(i : Int)] = 0 := List.count_eq_zero_of_not_mem (by simp; omega)
      rw [if_neg e, c1]
      omega
  · rw [sum_setX (by omega)]
    have := h.sum
    omega
section
variable {c : Ct} {Γ : List (Option Rs)} {te ta tb : TE} {tt tu : TT} {k ka kb : Kd} {a : Bool} {P : Out → Prop} {n : Nat}
end
end Lm


/-! two places exchanged; drawn changes; which pairs a table keeps -/
namespace Lm
open PySem PySem.Spec PyProof.Rows L2
section
variable {c : Ct} {H H0 : Hp} {O : List Addr} {σ : L2.St} {Γ : List (Option Rs)} {te ta tb tx ty : TE} {k ka kb kc : Kd} {P : Out → Prop} {n m : Nat} {i j x y : Int} {ns : List Int} {u : TS}
end
/-- drawn steps from one assignment to one of another allocation -/
structure Chg (A B g : List Int) (v : Int) (n : Nat) (t : Int) : Prop where
  rng : ∀ x ∈ g, 0 ≤ x ∧ x < v
  len : (g.length : Int) = B.sum
  up : ∀ x : Nat, (x : Int) < v → A.getD x 0 ≤ B.getD x 0 → (g.count (x : Int) : Int) ≤ B.getD x 0
  dn : ∀ x : Nat, (x : Int) < v → B.getD x 0 < A.getD x 0 → (g.count (x : Int) : Int) = if x < n then B.getD x 0 else if x = n then A.getD x 0 - t else A.getD x 0
section
variable {A B g : List Int} {v b : Int} {n : Nat} {t : Int}
theorem Chg.step (h : Chg A B g v n t) (ht : 0 ≤ t ∧ t < A.getD n 0 - B.getD n 0) (hn : (n : Int) < v) {p x : Nat} (hp : p < g.length) (hg : g.getD p 0 = (n : Int)) (hx : (x : Int) < v) (hw : (g.count (x : Int) : Int) < B.getD x 0) : Chg A B (g.set p (x : Int)) v n (t + 1) := by
  have cn := h.dn n hn (by omega)
  rw [if_neg (by omega), if_pos rfl] at cn
  have nx : x ≠ n := fun e => by subst e; omega
  have e1 : g[p] = (n : Int) := by rw [← hg]; simp [List.getD_eq_getElem?_getD, hp]
  have pos : 1 ≤ g.count (n : Int) := List.count_pos_iff.mpr (e1 ▸ List.getElem_mem hp)
  have cnt : ∀ y : Nat, ((g.set p (x : Int)).count (y : Int) : Int) = (g.count (y : Int) : Int) - (if y = n then 1 else 0) + (if y = x then 1 else 0) := fun y => by
    rw [List.count_set hp, e1]
    by_cases h1 : y = n
    · subst h1
      have : ¬ (x : Int) = (y : Int) := by omega
      simp [this, show ¬ y = x by omega]
      omega
    · by_cases h2 : y = x
      · subst h2
        have : ¬ (n : Int) = (y : Int) := by omega
        simp [this, h1]
      · have a1 : ¬ (n : Int) = (y : Int) := by omega
        have a2 : ¬ (x : Int) = (y : Int) := by omega
        simp [a1, a2, h1, h2]
  refine ⟨fun z hz => ?_, by simpa using h.len, fun y hy hd => ?_, fun y hy hd => ?_⟩
  · rcases List.mem_or_eq_of_mem_set hz with w | w
    · exact h.rng z w
    · omega
  · have := h.up y hy hd
    rw [cnt y]
    by_cases h1 : y = n
    · subst h1; omega
    · by_cases h2 : y = x
      · subst h2; rw [if_neg h1, if_pos rfl]; omega
      · rw [if_neg h1, if_neg h2]; omega
  · have hc := h.dn y hy hd
    have y2 : y ≠ x := fun e => by
      subst e
      rw [hc] at hw
      by_cases q : y < n
      · rw [if_pos q] at hw; omega
      · rw [if_neg q, if_neg nx] at hw; omega
    rw [cnt y, hc, if_neg y2]
    by_cases h1 : y = n
    · subst h1
      rw [if_neg (by omega), if_pos rfl, if_pos rfl, if_neg (by omega), if_pos rfl]
      omega
    · rw [if_neg h1]
      simp only [if_neg h1]
      omega
end
/-! which pairs a table keeps -/
end Lm


/-! which buckets fit: the mathematics -/
namespace Lm
open PySem PySem.Spec PyProof.Rows L2
abbrev Pk := Nat → Bool
/-- all its own are among the chosen -/
def insP (p : Pk) (own : List Int) : Bool := own.all fun y => p y.toNat
def rmP (as : List Int) (p : Pk) : Int := ((List.range as.length).map fun x => if p x then as.getD x 0 else 0).sum
def cfP (C : List (List Int)) (p : Pk) : Int := ((C.filter (insP p)).length : Nat)
def Hall (as : List Int) (C : List (List Int)) : Prop := ∀ p : Pk, cfP C p ≤ rmP as p
def dcI (x : Int) (as : List Int) : List Int := as.set x.toNat (as.getD x.toNat 0 - 1)
theorem dcI_len {x : Int} {as : List Int} : (dcI x as).length = as.length := by simp [dcI]
def b1 (b : Bool) : Int := if b then 1 else 0
theorem cf_cons {own : List Int} {C : List (List Int)} {p : Pk} : cfP (own :: C) p = cfP C p + b1 (insP p own) := by
  unfold cfP b1
  rw [List.filter_cons]
  split <;> simp
theorem cf_nn {C : List (List Int)} {p : Pk} : 0 ≤ cfP C p := by unfold cfP; omega
theorem sum_upd {g h : Nat → Int} : ∀ {n x : Nat}, x < n → (∀ i < n, i ≠ x → h i = g i) → ((List.range n).map h).sum = ((List.range n).map g).sum - g x + h x
  | n + 1, x, hx, e => by
    rw [List.range_succ, List.map_append, List.map_append, List.sum_append, List.sum_append]
    simp only [List.map_cons, List.map_nil, List.sum_cons, List.sum_nil]
    by_cases q : x = n
    · subst q
      have : (List.range x).map h = (List.range x).map g := List.map_congr_left fun i hi => e i (by have := List.mem_range.mp hi; omega) (by have := List.mem_range.mp hi; omega)
      rw [this]
      omega
    · have := sum_upd (n := n) (x := x) (g := g) (h := h) (by omega) fun i hi hn => e i (by omega) hn
      rw [this, e n (by omega) (fun z => q z.symm)]
      omega
theorem rm_dec {x : Int} {as : List Int} (hx : 0 ≤ x ∧ x < as.length) (p : Pk) : rmP (dcI x as) p = rmP as p - b1 (p x.toNat) := by
  unfold rmP
  rw [dcI_len]
  have xl : x.toNat < as.length := by omega
  have s : ∀ i, (dcI x as).getD i 0 = if x.toNat = i then as.getD x.toNat 0 - 1 else as.getD i 0 := fun i => getD_setI xl
  rw [sum_upd (g := fun i => if p i then as.getD i 0 else 0) xl fun i hi hn => by
    have e : (dcI x as).getD i 0 = as.getD i 0 := by rw [s, if_neg (fun z => hn z.symm)]
    rw [e]]
  rw [s, if_pos rfl]
  unfold b1
  split <;> omega
theorem rm_or (as : List Int) (p q : Pk) : rmP as (fun x => p x || q x) + rmP as (fun x => p x && q x) = rmP as p + rmP as q := by
  have e : ∀ (a c : Bool) (n : Int), (if (a || c) = true then n else 0) + (if (a && c) = true then n else 0) = (if a = true then n else 0) + (if c = true then n else 0) := fun a c n => by cases a <;> cases c <;> simp
  unfold rmP
  generalize List.range as.length = l
  induction l with
  | nil => rfl
  | cons x l ih =>
    have h1 := e (p x) (q x) (as.getD x 0)
    simp only [List.map_cons, List.sum_cons]
    simp only at ih
    omega
theorem ins_or {p q : Pk} {own : List Int} : insP p own = true → insP (fun x => p x || q x) own = true := fun h => by
  unfold insP at *
  rw [List.all_eq_true] at *
  intro y hy
  show (p y.toNat || q y.toNat) = true
  rw [h y hy]; rfl
theorem ins_or' {p q : Pk} {own : List Int} : insP q own = true → insP (fun x => p x || q x) own = true := fun h => by
  unfold insP at *
  rw [List.all_eq_true] at *
  intro y hy
  show (p y.toNat || q y.toNat) = true
  rw [h y hy, Bool.or_true]
theorem ins_and {p q : Pk} {own : List Int} : insP (fun x => p x && q x) own = (insP p own && insP q own) := by
  unfold insP
  induction own with
  | nil => rfl
  | cons y l ih =>
    simp only [List.all_cons, ih]
    cases p y.toNat <;> cases q y.toNat <;> simp
theorem cf_or (C : List (List Int)) (p q : Pk) : cfP C p + cfP C q ≤ cfP C (fun x => p x || q x) + cfP C (fun x => p x && q x) := by
  induction C with
  | nil => simp [cfP]
  | cons own C ih =>
    rw [cf_cons, cf_cons, cf_cons, cf_cons, ins_and]
    have h1 := ins_or (p := p) (q := q) (own := own)
    have h2 := ins_or' (p := p) (q := q) (own := own)
    unfold b1
    cases a : insP p own <;> cases c : insP q own <;> cases d : insP (fun x => p x || q x) own <;> simp_all <;> omega
/-- with such a bucket there is more in the two together -/
theorem cf_or1 {own : List Int} {C : List (List Int)} {p q : Pk} (h1 : insP p own = false) (h2 : insP q own = false) (h3 : insP (fun x => p x || q x) own = true) :
    cfP (own :: C) p + cfP (own :: C) q + 1 ≤ cfP (own :: C) (fun x => p x || q x) + cfP (own :: C) (fun x => p x && q x) := by
  have := cf_or C p q
  rw [cf_cons, cf_cons, cf_cons, cf_cons, ins_and, h1, h2, h3]
  simp only [b1, Bool.false_and, if_true, if_false, Bool.false_eq_true]
  omega
theorem hall_back {as own : List Int} {C : List (List Int)} {x : Int} (hx : x ∈ own) (x0 : 0 ≤ x ∧ x < as.length) (h : Hall (dcI x as) C) : Hall as (own :: C) := fun p => by
  have := h p
  rw [rm_dec x0] at this
  rw [cf_cons]
  unfold b1 at *
  cases q : insP p own with
  | false => split at this <;> simp only [if_false, Bool.false_eq_true] <;> omega
  | true =>
    unfold insP at q
    rw [List.all_eq_true.mp q x hx] at this
    simp only [if_true] at *
    omega
theorem hall_step {as own : List Int} {C : List (List Int)} (hr : ∀ y ∈ own, 0 ≤ y ∧ y < as.length) (h : Hall as (own :: C)) : ∃ x ∈ own, Hall (dcI x as) C := by
  refine Classical.byContradiction fun hc => ?_
  have bad : ∀ x ∈ own, ∃ p : Pk, p x.toNat = true ∧ insP p own = false ∧ cfP (own :: C) p = rmP as p := fun x hx => by
    refine Classical.byContradiction fun hn => hc ⟨x, hx, fun p => ?_⟩
    have hp := h p
    rw [rm_dec (hr x hx)]
    have hp' := hp
    rw [cf_cons] at hp
    unfold b1 at *
    cases q : insP p own with
    | true =>
      rw [q] at hp
      unfold insP at q
      rw [List.all_eq_true.mp q x hx]
      simp only [if_true] at *
      omega
    | false =>
      rw [q] at hp
      cases z : p x.toNat with
      | false => simp only [if_false, Bool.false_eq_true] at *; omega
      | true =>
        have ne : cfP (own :: C) p ≠ rmP as p := fun e => hn ⟨p, z, q, e⟩
        have e2 : cfP (own :: C) p = cfP C p := by rw [cf_cons, q]; simp [b1]
        simp only [if_true]
        omega
  have key : ∀ xs : List Int, (∀ x ∈ xs, x ∈ own) → ∃ U : Pk, insP U own = false ∧ (∀ x ∈ xs, U x.toNat = true) ∧ cfP (own :: C) U = rmP as U := by
    intro xs
    induction xs with
    | nil =>
      intro _
      have h0 := h fun _ => false
      have r0 : rmP as (fun _ => false) = 0 := by
        unfold rmP
        simp only [Bool.false_eq_true, if_false]
        exact sum_zeroN _
      have c0 := cf_nn (C := own :: C) (p := fun _ => false)
      have c1 := cf_nn (C := C) (p := fun _ => false)
      have hc0 := cf_cons (own := own) (C := C) (p := fun _ => false)
      refine ⟨fun _ => false, ?_, by simp, by omega⟩
      cases q : insP (fun _ => false) own with
      | false => rfl
      | true => rw [q] at hc0; simp only [b1, if_true] at hc0; omega
    | cons x xs ih =>
      intro hs
      obtain ⟨U, u1, u2, u3⟩ := ih fun y hy => hs y (by simp [hy])
      obtain ⟨p, p1, p2, p3⟩ := bad x (hs x (by simp))
      have hW := h fun y => U y || p y
      have hA := h fun y => U y && p y
      have ro := rm_or as U p
      refine ⟨fun y => U y || p y, ?_, fun y hy => ?_, ?_⟩
      · cases q : insP (fun y => U y || p y) own with
        | false => rfl
        | true =>
          have := cf_or1 (C := C) u1 p2 q
          omega
      · rcases List.mem_cons.mp hy with w | w
        · rw [w]; simp [p1]
        · simp [u2 y w]
      · have := cf_or (own :: C) U p
        omega
  obtain ⟨U, u1, u2, _⟩ := key own fun x hx => hx
  have : insP U own = true := by
    unfold insP
    rw [List.all_eq_true]
    exact u2
  rw [this] at u1
  cases u1
where sum_zeroN : ∀ l : List Nat, (l.map fun _ => (0 : Int)).sum = 0
  | [] => rfl
  | a :: l => by rw [List.map_cons, List.sum_cons, sum_zeroN l]; rfl
/-- each bucket has one of its own, and all shares are used up -/
def Fits : List Int → List (List Int) → List Int → Prop
  | as, [], [] => ∀ x ∈ as, x = 0
  | as, own :: C, x :: f => x ∈ own ∧ Fits (dcI x as) C f
  | _, _, _ => False
theorem sum_dcI {x : Int} {as : List Int} (hx : 0 ≤ x ∧ x < as.length) : (dcI x as).sum = as.sum - 1 := by
  unfold dcI
  rw [sum_setX (by omega)]
  omega
theorem rm_one {as : List Int} {x : Nat} (hx : x < as.length) : rmP as (fun y => decide (y = x)) = as.getD x 0 := by
  unfold rmP
  rw [sum_upd (g := fun _ => 0) hx fun i _ hn => by simp [hn], hall_step.sum_zeroN]
  simp
theorem hall_nn {as : List Int} {C : List (List Int)} (h : Hall as C) : ∀ x ∈ as, 0 ≤ x := fun x hx => by
  obtain ⟨i, hi⟩ := List.getElem?_of_mem hx
  have il := (List.getElem?_eq_some_iff.mp hi).1
  have := h fun y => decide (y = i)
  rw [rm_one il] at this
  have c := cf_nn (C := C) (p := fun y => decide (y = i))
  have e : as.getD i 0 = x := by rw [List.getD_eq_getElem?_getD, hi]; rfl
  omega
def Rng (C : List (List Int)) (n : Nat) : Prop := ∀ own ∈ C, ∀ y ∈ own, 0 ≤ y ∧ y < (n : Int)
theorem fit_hall : ∀ {C : List (List Int)} {as f : List Int}, Rng C as.length → Fits as C f → Hall as C
  | [], as, [], _, h => fun p => by
    have z : ∀ x ∈ as, x = 0 := h
    have e : rmP as p = 0 := by
      unfold rmP
      rw [List.map_congr_left (g := fun _ => (0 : Int)) fun i hi => by
        have : as.getD i 0 = 0 := z _ (gd_mem (List.mem_range.mp hi))
        rw [this]; split <;> rfl]
      exact hall_step.sum_zeroN _
    rw [e]
    simp [cfP]
  | own :: C, as, x :: f, hr, h => by
    obtain ⟨hx, hf⟩ := h
    exact hall_back hx (hr own (by simp) x hx) (fit_hall (by rw [dcI_len]; exact fun o ho => hr o (by simp [ho])) hf)
  | [], _, _ :: _, _, h => absurd h id
  | _ :: _, _, [], _, h => absurd h id
open Classical in
noncomputable def grd : List Int → List (List Int) → List Int
  | _, [] => []
  | as, own :: C => (own.filter fun x => decide (Hall (dcI x as) C)).headD 0 :: grd (dcI ((own.filter fun x => decide (Hall (dcI x as) C)).headD 0) as) C
theorem headF_mem {l : List Int} {p : Int → Bool} (h : ∃ x ∈ l, p x = true) : (l.filter p).headD 0 ∈ l ∧ p ((l.filter p).headD 0) = true := by
  obtain ⟨x, hx, hp⟩ := h
  have m : x ∈ l.filter p := List.mem_filter.mpr ⟨hx, hp⟩
  cases q : l.filter p with
  | nil => rw [q] at m; cases m
  | cons y r =>
    have : y ∈ l.filter p := by rw [q]; simp
    exact List.mem_filter.mp this
open Classical in
theorem grd_fit : ∀ {C : List (List Int)} {as : List Int}, Rng C as.length → Hall as C → as.sum = C.length → Fits as C (grd as C)
  | [], as, _, h, hs => fun x hx => by
    have nn := hall_nn h
    have := nn x hx
    have := le_sum nn x hx
    simp at hs
    omega
  | own :: C, as, hr, h, hs => by
    have ro := hr own (by simp)
    obtain ⟨x, hx, hh⟩ := hall_step ro h
    obtain ⟨m1, m2⟩ := headF_mem (l := own) (p := fun x => decide (Hall (dcI x as) C)) ⟨x, hx, decide_eq_true hh⟩
    have m2 := of_decide_eq_true m2
    refine ⟨m1, grd_fit (by rw [dcI_len]; exact fun o ho => hr o (by simp [ho])) m2 ?_⟩
    rw [sum_dcI (ro _ m1), hs]
    simp
end Lm


/-! which buckets fit: by all sets of variants -/
namespace Lm
open PySem PySem.Spec PyProof.Rows L2
theorem cmb_sub : ∀ {l : List Nat} {k : Nat} {s : List Nat}, s ∈ cmbL l k → s.Sublist l
  | _, 0, s, h => by
    have : s = [] := by simpa [cmbL] using h
    rw [this]
    exact List.nil_sublist _
  | [], k + 1, s, h => by simp [cmbL] at h
  | a :: l, k + 1, s, h => by
    rcases List.mem_append.mp h with w | w
    · obtain ⟨t, ht, rfl⟩ := List.mem_map.mp w
      exact (cmb_sub ht).cons_cons a
    · exact (cmb_sub w).cons a
/-- all sets of variants, the smaller ones first -/
def vsN (v : Nat) : List (List Nat) := (List.range (v + 1)).flatMap fun k => cmbs v k
theorem vs_sub {v : Nat} {s : List Nat} (h : s ∈ vsN v) : s.Sublist (List.range v) := by
  obtain ⟨k, _, hs⟩ := List.mem_flatMap.mp h
  exact cmb_sub hs
def inS (s : List Nat) : Pk := fun x => decide (x ∈ s)
/-- what a set of variants has, and how many buckets need it -/
def roomI (as : List Int) (s : List Nat) : Int := (s.map fun x => as.getD x 0).sum
theorem sum_sub {g : Nat → Int} : ∀ {l s : List Nat}, s.Sublist l → l.Nodup → (s.map g).sum = (l.map fun x => if decide (x ∈ s) then g x else 0).sum
  | _, _, .slnil, _ => rfl
  | a :: l, s, .cons _ h, nd => by
    have na : a ∉ s := fun m => (List.nodup_cons.mp nd).1 (h.subset m)
    rw [List.map_cons, List.sum_cons, sum_sub h (List.nodup_cons.mp nd).2, decide_eq_false na]
    simp
  | a :: l, _ :: s, .cons_cons _ h, nd => by
    have nd' := List.nodup_cons.mp nd
    rw [List.map_cons, List.sum_cons, List.map_cons, List.sum_cons, sum_sub h nd'.2]
    have e : (l.map fun x => if decide (x ∈ s) then g x else 0) = l.map fun x => if decide (x ∈ a :: s) then g x else 0 := List.map_congr_left fun x hx => by
      have : x ≠ a := fun e => nd'.1 (e ▸ hx)
      simp [this]
    rw [e]
    simp
theorem room_rm {as : List Int} {s : List Nat} (h : s ∈ vsN as.length) : roomI as s = rmP as (inS s) := sum_sub (vs_sub h) List.nodup_range
theorem fits_iff : ∀ {C : List (List Int)} {as f : List Int}, Rng C as.length → (Fits as C f ↔ f.length = C.length ∧ (∀ i < f.length, f.getD i 0 ∈ C.getD i []) ∧ ∀ x < as.length, (f.count (x : Int) : Int) = as.getD x 0)
  | [], as, [], _ => by
    constructor
    · intro h
      exact ⟨rfl, by simp, fun x hx => by
        have h' : ∀ x ∈ as, x = 0 := h
        rw [h' _ (gd_mem hx)]; rfl⟩
    · rintro ⟨_, _, h⟩ x hx
      obtain ⟨i, hi⟩ := List.getElem?_of_mem hx
      have := h i (List.getElem?_eq_some_iff.mp hi).1
      rw [List.getD_eq_getElem?_getD, hi] at this
      simpa using this.symm
  | own :: C, as, x :: f, hr => by
    have rC : Rng C (dcI x as).length := by rw [dcI_len]; exact fun o ho => hr o (by simp [ho])
    have ih := fits_iff (as := dcI x as) (f := f) rC
    have cnt : ∀ (x0 : 0 ≤ x ∧ x < as.length) (y : Nat), y < as.length → (((x :: f).count (y : Int) : Int) = as.getD y 0 ↔ (f.count (y : Int) : Int) = (dcI x as).getD y 0) := fun x0 y hy => by
      have e : (dcI x as).getD y 0 = if x.toNat = y then as.getD x.toNat 0 - 1 else as.getD y 0 := getD_setI (by omega)
      rw [e, List.count_cons]
      by_cases w : x.toNat = y
      · subst w
        have : x = ((x.toNat : Nat) : Int) := by omega
        rw [if_pos rfl, if_pos (by rw [beq_iff_eq]; exact this)]
        omega
      · have : ¬ x = (y : Int) := by omega
        rw [if_neg w, if_neg (by simpa using this)]
        omega
    show x ∈ own ∧ Fits (dcI x as) C f ↔ _
    rw [ih, dcI_len]
    constructor
    · rintro ⟨hx, h1, h2, h3⟩
      have x0 := hr own (by simp) x hx
      refine ⟨by simp [h1], fun i hi => ?_, fun y hy => (cnt x0 y hy).mpr (h3 y hy)⟩
      cases i with
      | zero => exact hx
      | succ i => exact h2 i (by simpa using hi)
    · rintro ⟨h1, h2, h3⟩
      have hx : x ∈ own := h2 0 (by simp)
      have x0 := hr own (by simp) x hx
      exact ⟨hx, by simpa using h1, fun i hi => h2 (i + 1) (by simpa using hi), fun y hy => (cnt x0 y hy).mp (h3 y hy)⟩
  | [], _, _ :: _, _ => by simp [Fits]
  | _ :: _, _, [], _ => by simp [Fits]
end Lm


/-! which buckets fit: the promises -/
namespace Lm
open PySem PySem.Spec PyProof.Rows L2
structure Mns (C : List (List Int)) (n : Nat) : Prop where
  rng : Rng C n
  len : C.length ≤ 20
  own : ∀ own ∈ C, own.length ≤ 5
section
variable {c : Ct} {Γ : List (Option Rs)} {tl : TE} {k : Kd} {C : List (List Int)} {d : PyData}
end
end Lm


/-! shortages, and how rules go on -/
namespace Lm
open PySem PySem.Spec PyProof.Rows L2
/-- the first set of variants that is too small -/
def shS (as : List Int) (C : List (List Int)) : Option (List Nat) := (vsN as.length).find? fun s => decide (roomI as s < cfP C (inS s))
theorem sh_some {as : List Int} {C : List (List Int)} {s : List Nat} (h : shS as C = some s) : s ∈ vsN as.length ∧ roomI as s < cfP C (inS s) := by
  unfold shS at h
  have q := List.find?_some h
  exact ⟨List.mem_of_find?_eq_some h, by simpa using q⟩
section
variable {c : Ct} {Γ : List (Option Rs)} {tl tb : TE} {kb : Kd} {C : List (List Int)} {cd : PyData}
end
/-! rules -/
end Lm


/-! zip of a list and a tuple -/
namespace Lm
open PySem PySem.Spec PyProof.Rows L2
/-- a list (true) or a tuple -/
def SqM (K : PySem.W.Frag) (t : Bool) (H : Hp) (a : Addr) (xs : List V) : Prop := match t with
  | true => SqL K H a xs
  | false => SqT K H a xs
def ItM (t : Bool) (h : Heap) (i a : Addr) (k : Nat) : Prop := match t with
  | true => h.IsListIter i a k
  | false => h.IsTupleIter i a k
def OfM (t : Bool) (h : Heap) (a : Addr) (its : Array Value) : Prop := match t with
  | true => h.IsList a its
  | false => h.IsTuple a its
theorem drawsM {prog : Program} {w : World} {A : Around} (t : Bool) (hh : A.handled = none) (it l : Addr) (hne : l ≠ it) (items : Array Value) :
    Draws prog w A it [it, l] items.size (fun i v => items[i]? = some v) (fun i h => ItM t h it l i ∧ OfM t h l items) := by
  cases t
  · exact Draws.tuple hh it l hne items
  · exact Draws.list hh it l hne items
theorem ItM.obj {t : Bool} {h : Heap} {i a : Addr} {k : Nat} (x : ItM t h i a k) : ∃ o, h.get? i = some o ∧ ∀ v, o.data ≠ .cell v := by
  cases t <;> obtain ⟨o, e, _, d⟩ := x <;> exact ⟨o, e, fun v q => by rw [d] at q; cases q⟩
theorem ItM.at {t : Bool} {h h' : Heap} {i a : Addr} {k : Nat} (x : ItM t h i a k) (f : ∀ o, h.get? i = some o → h'.get? i = some o) : ItM t h' i a k := by
  cases t
  · exact Heap.IsTupleIter.at x f
  · exact Heap.IsListIter.at x f
theorem invM {X : Cx} {pins : List (Addr × Obj)} {σ : L2.St} {H : Hp} {s : Shared} {t : Bool} {a : Addr} {xs : List V} (I : Inv X pins σ H s) (h : SqM X.K t H a xs) : ∃ its : List Value, Vals xs its ∧ OfM t s.heap a its.toArray ∧ a < s.heap.objs.size := by
  cases t
  · obtain ⟨its, rv, p, _⟩ := I.tuple h
    exact ⟨its, rv, p, let ⟨_, w, _⟩ := p; Heap.lt_size w⟩
  · obtain ⟨its, rv, p, _⟩ := I.list h
    exact ⟨its, rv, p.isList, p.lt⟩
theorem injM {X : Cx} {pins : List (Addr × Obj)} {σ : L2.St} {H : Hp} {s : Shared} {t : Bool} {a : Addr} {xs ys : List V} (I : Inv X pins σ H s) (h : SqM X.K t H a xs) (h' : SqM X.K t H a ys) : xs = ys := by
  cases t
  · exact I.tuple_inj h h'
  · exact I.list_inj h h'
theorem letGo_zipX {prog : Program} {w : World} {A : Around} {E : Value → Shared → Prop} {s : Shared} {elts : List Expr} {x1 : Nat} {pos : Pos} {z TI TO T : Addr} {x' : Value} {b' : Bool} {Q : Unit → Shared → Prop} (hz : IsZipX s.heap z TI TO x' b') (h0 : Q () s)
    (h1 : ∀ h', IsZipX h' z TI TO .none b' → Heap.SameBut z s.heap h' → Q () { s with heap := h' }) : wpAny (model prog w) A (letOwnedTupleGo (.Tuple elts x1 pos) (.ref z) (.ref T)) Q E s := by
  unfold letOwnedTupleGo
  refine wpAny_bind (wpAny_load hz ?_)
  show wpAny _ _ (if (["enumerate", "zip", "dict_itemiterator", "dict_reverseitemiterator", "odict_iterator", "itertools.zip_longest", "itertools.pairwise"].contains "zip" &&
      (#[x', .bool b', .bool false, .ref TI, .ref TO] : Array Value)[0]? == some (rawInt T)) = true then _ else _) Q E s
  split
  · refine wpAny_bind (wpAny_rule ?_)
    show wpAny _ _ (setField (.ref z) 0 .none) Q E s
    exact wpAny_setField_rec hz (by simp) fun h' hz' hs' => h1 h' hz' hs'
  · exact wpAny_pure h0
theorem pyIter_zipX {prog : Program} {w : World} {A : Around} {E : Value → Shared → Prop} {s : Shared} {z TI TO : Addr} {x : Value} {b : Bool} {Q : Value → Shared → Prop} (hz : IsZipX s.heap z TI TO x b) (h : Q (.ref z) s) : wpAny (model prog w) A (pyIter (.ref z)) Q E s := by
  have hT : s.TypeIs (.ref z) "zip" := ⟨_, hz, rfl⟩
  refine wpAny_pyIter_slot hT F.slot_zip_iter (wpAny_call_entry F.slot_zip_iter hT F.entry_zip_iter ?_ (F.args_zip_iter_1 _))
  show wpAny _ _ (ret (.ref z)) _ _ s
  exact wpAny_pure ⟨_, rfl, "zip", _, hT, F.slot_zip_next.lookup, h⟩
def ItzM (K : PySem.W.Frag) (t1 t2 : Bool) (a b : Addr) : It where
  go := fun i H => ∃ (xs ys : List V) (x y : V), SqM K t1 H a xs ∧ SqM K t2 H b ys ∧ xs[i]? = some x ∧ ys[i]? = some y
  yld := fun i H v H' => ∃ T x y, v = .ref T ∧ H T = none ∧ H' = upd H T (.tup [x, y]) ∧ (∀ xs, SqM K t1 H a xs → xs[i]? = some x) ∧ ∀ ys, SqM K t2 H b ys → ys[i]? = some y
  stop := fun i H => ∃ xs : List V, SqM K t1 H a xs ∧ xs.length = i
theorem turnM {P : Program} {w : World} {K : PySem.W.Frag} {elts : List Expr} {kk : Nat} {tpos : Pos} {t1 t2 : Bool} {a b z TI TO i1 i2 : Addr} (S : ZipSep2 z TI TO i1 i2 [i1, a] [i2, b]) (ha : a ≠ i1) (hb : b ≠ i2) :
    Turn P w K (.Tuple elts kk tpos) (ItzM K t1 t2 a b) [z, TI, TO, i1, i2] z fun i h => (∃ x bb, IsZipX h z TI TO x bb ∧ (x = .none ∨ ∃ T : Addr, x = rawInt T)) ∧ IsTupOf2 h TI (.ref i1) (.ref i2) ∧ (∃ a1 a2, IsTupOf2 h TO a1 a2) ∧ ItM t1 h i1 a i ∧ ItM t2 h i2 b i where
  mem := List.mem_cons_self
  obj := by
    rintro i h ⟨⟨x, bb, hz, _⟩, hTI, ⟨a1, a2, hTO⟩, h1, h2⟩ c hc
    have e' : c = z ∨ c = TI ∨ c = TO ∨ c = i1 ∨ c = i2 := by simpa using hc
    rcases e' with q | q | q | q | q
    · rw [q]; exact ⟨_, hz, fun v q => nomatch q⟩
    · rw [q]; exact ⟨_, hTI, fun v q => nomatch q⟩
    · rw [q]; exact ⟨_, hTO, fun v q => nomatch q⟩
    · rw [q]; exact h1.obj
    · rw [q]; exact h2.obj
  keep := by
    rintro i h h' ⟨⟨x, bb, hz, hx⟩, hTI, ⟨a1, a2, hTO⟩, h1, h2⟩ k
    exact ⟨⟨x, bb, k z (by simp) _ hz, hx⟩, k TI (by simp) _ hTI, ⟨a1, a2, k TO (by simp) _ hTO⟩, h1.at fun o q => k i1 (by simp) o q, h2.at fun o q => k i2 (by simp) o q⟩
  item := by
    intro X hP hw hK hc i pins s σ H E I hf ⟨⟨x0, bb, hz, hx0⟩, hTI, ⟨a1, a2, hTO⟩, h1, h2⟩ ⟨xs, ys, x, y, hqx, hqy, hx, hy⟩
    subst hP hw hK
    obtain ⟨its, rv, p, _⟩ := invM I hqx
    obtain ⟨its2, rv2, p2, _⟩ := invM I hqy
    obtain ⟨u, hu, ru⟩ := rv.get hx
    obtain ⟨u2, hu2, ru2⟩ := rv2.get hy
    have lt1 : i < its.toArray.size := by rw [List.size_toArray]; exact (List.getElem?_eq_some_iff.mp hu).1
    have lt2 : i < its2.toArray.size := by rw [List.size_toArray]; exact (List.getElem?_eq_some_iff.mp hu2).1
    have hh : X.A.in1.handled = none := I.ok.hd hc
    have hzl : z < s.heap.objs.size := Heap.lt_size hz
    refine next_zip hz fun E' => zipX_item S (drawsM t1 hh i1 a ha its.toArray) (drawsM t2 hh i2 b hb its2.toArray) hz hx0 hTI hTO ⟨h1, p⟩ ⟨h2, p2⟩ lt1 lt2 fun v1 v2 g1 tk x' b' hv1 hv2 hz' hx' hTO' s1' s2' hT hsz hk => ?_
    have q1 : v1 = u := by
      have : its[i]? = some v1 := by simpa using hv1
      rw [hu] at this
      exact (Option.some.inj this).symm
    have q2 : v2 = u2 := by
      have : its2[i]? = some v2 := by simpa using hv2
      rw [hu2] at this
      exact (Option.some.inj this).symm
    subst q1 q2
    have frT : H s.heap.objs.size = none := I.hok.fresh (Nat.le_refl _)
    have hlt : ∀ c ∈ [z, TI, TO, i1, i2], c < s.heap.objs.size := fun c hc => by
      have e' : c = z ∨ c = TI ∨ c = TO ∨ c = i1 ∨ c = i2 := by simpa using hc
      rcases e' with q | q | q | q | q
      · rw [q]; exact hzl
      · rw [q]; exact Heap.lt_size hTI
      · rw [q]; exact Heap.lt_size hTO
      · rw [q]; obtain ⟨_, w1, _⟩ := h1.obj; exact Heap.lt_size w1
      · rw [q]; obtain ⟨_, w1, _⟩ := h2.obj; exact Heap.lt_size w1
    have zi1 : i1 ≠ z := fun e => S.zf1 (by rw [← e]; exact S.mem1)
    have zi2 : i2 ≠ z := fun e => S.zf2 (by rw [← e]; exact S.mem2)
    have fin : ∀ (h'' : Heap) (x'' : Value), IsZipX h'' z TI TO x'' b' → (x'' = .none ∨ ∃ T : Addr, x'' = rawInt T) → Heap.SameBut z g1 h'' → ∃ xv H', Inv X pins σ H' { s with heap := h'', toks := tk } ∧ RelV xv (.ref s.heap.objs.size) ∧ (ItzM X.K t1 t2 a b).yld i H xv H' ∧ ((∃ x bb, IsZipX h'' z TI TO x bb ∧ (x = .none ∨ ∃ T : Addr, x = rawInt T)) ∧ IsTupOf2 h'' TI (.ref i1) (.ref i2) ∧ (∃ a1 a2, IsTupOf2 h'' TO a1 a2) ∧ ItM t1 h'' i1 a (i + 1) ∧ ItM t2 h'' i2 b (i + 1)) ∧ ∀ c ∈ [z, TI, TO, i1, i2], H' c = none := fun h'' x'' hz'' hx'' sb => by
      have hT2 : h''.get? s.heap.objs.size = some { cls := .type "tuple", data := .seq #[v1, v2] } := (sb.2 _ (Nat.ne_of_gt hzl)).trans hT
      have I1 : Inv X pins σ (upd H s.heap.objs.size (.tup [x, y])) { s with heap := h'', toks := tk } :=
        I.turnedNew (t' := tk) (ch := [z, TI, TO, i1, i2]) (fun c o hb q => (sb.2 c (fun q' => hb (by simp [q']))).trans (hk c o (fun q' => hb (by simp [q'])) (fun q' => hb (by simp [q'])) (fun q' => hb (by simp [q'])) (fun q' => hb (by simp [q'])) q)) hf (Nat.le_refl _)
          ⟨by show 2 ≤ sizeLine; decide, [v1, v2], .cons ru (.cons ru2 .nil), ⟨_, hT2, rfl, _, rfl⟩⟩
      refine ⟨.ref s.heap.objs.size, _, I1, rfl, ⟨_, x, y, rfl, frT, rfl, fun l hl => by rw [injM I hl hqx]; exact hx, fun l hl => by rw [injM I hl hqy]; exact hy⟩, ⟨⟨x'', b', hz'', hx''⟩, ?_, ?_, s1'.1.at fun o q => (sb.2 _ zi1).trans q, s2'.1.at fun o q => (sb.2 _ zi2).trans q⟩, fun c hc => ?_⟩
      · exact (sb.2 _ S.TIz).trans (hk _ _ S.TIz S.TITO S.TIi1 S.TIi2 hTI)
      · obtain ⟨c1, c2, q⟩ := hTO'
        exact ⟨c1, c2, (sb.2 _ S.TOz).trans q⟩
      · rw [upd_ne (Nat.ne_of_lt (hlt c hc))]
        exact (hf c hc).1
    exact ⟨_, rfl, letGo_zipX (s := { s with heap := g1, toks := tk }) hz' (fin g1 x' hz' hx' ⟨rfl, fun _ _ => rfl⟩) fun h'' hz'' sb => fin h'' .none hz'' (.inl rfl) sb⟩
  done := by
    intro X hP hw hK hc i pins s σ H E I hf ⟨⟨x0, bb, hz, hx0⟩, hTI, ⟨a1, a2, hTO⟩, h1, h2⟩ ⟨xs, hqx, hx⟩
    subst hP hw hK
    obtain ⟨its, rv, p, _⟩ := invM I hqx
    have hl : its.toArray.size = i := by rw [List.size_toArray, ← rv.length]; exact hx
    refine pyNext_zip_end (n1 := its.toArray.size) S (fun A' hh' => drawsM t1 hh' i1 a ha its.toArray) (I.ok.hd hc) hz hx0 hTI ⟨by rw [hl]; exact h1, p⟩ fun h' hk => ⟨rfl, I.turnedL (t' := s.toks) (ch := [z, TI, TO, i1, i2]) (fun c o hb q => hk c o (fun q' => hb (by simp [q'])) (fun q' => hb (by simp [q'])) q) hf⟩
  self := fun A i s Q E ⟨⟨_, _, hz, _⟩, _⟩ h => pyIter_zipX hz h
def zM1 (t1 : Bool) (h : Heap) (l1 : Addr) : Heap := h.push { cls := .type (if t1 then "list_iterator" else "tuple_iterator"), data := .fields #[.ref l1, .int 0 0] }
def zM2 (t1 t2 : Bool) (h : Heap) (l1 l2 : Addr) : Heap := (zM1 t1 h l1).push { cls := .type (if t2 then "list_iterator" else "tuple_iterator"), data := .fields #[.ref l2, .int 0 0] }
def zM3 (t1 t2 : Bool) (h : Heap) (l1 l2 : Addr) : Heap := (zM2 t1 t2 h l1 l2).push { cls := .type "tuple", data := .seq #[.ref h.objs.size, .ref (zM1 t1 h l1).objs.size] }
def zM4 (t1 t2 : Bool) (h : Heap) (l1 l2 : Addr) : Heap := (zM3 t1 t2 h l1 l2).push { cls := .type "tuple", data := .seq #[.none, .none] }
def zM5 (t1 t2 : Bool) (h : Heap) (l1 l2 : Addr) : Heap := (zM4 t1 t2 h l1 l2).push { cls := .type "zip", data := .fields #[.none, .bool false, .bool false, .ref (zM2 t1 t2 h l1 l2).objs.size, .ref (zM3 t1 t2 h l1 l2).objs.size] }
theorem meetsM (t1 t2 : Bool) (l1 l2 : Addr) (xs ys : Array Value) :
    Meets (Builtin.«zip.__new__» ⟨[.type "zip", .ref l1, .ref l2], []⟩) (fun _ R s => OfM t1 s.heap l1 xs ∧ OfM t2 s.heap l2 ys ∧
      R (.ok (.ret (.ref (zM4 t1 t2 s.heap l1 l2).objs.size))) { s with heap := zM5 t1 t2 s.heap l1 l2 }) :=
  .of_wp fun prog w A R s h => by
    obtain ⟨hp, g, d, tk, os⟩ := s; obtain ⟨hl1, hl2, h⟩ := h
    have hsub := sub_zip
    cases t1 <;> cases t2
    · have hL1 : Heap.IsTuple (Shared.heap ⟨hp, g, d, tk, os⟩) l1 xs := hl1
      have hL2 : Heap.IsTuple (Shared.heap ⟨hp.push { cls := .type "tuple_iterator", data := .fields #[.ref l1, .int 0 0] }, g, d, tk, os⟩) l2 ys := Heap.IsTuple.push hl2 _
      wp_walk using wpAny_pyIter_tuple hL1, wpAny_pyIter_tuple hL2
      exact ⟨_, rfl, h⟩
    · have hL1 : Heap.IsTuple (Shared.heap ⟨hp, g, d, tk, os⟩) l1 xs := hl1
      have hL2 : Heap.IsList (Shared.heap ⟨hp.push { cls := .type "tuple_iterator", data := .fields #[.ref l1, .int 0 0] }, g, d, tk, os⟩) l2 ys := Heap.IsList.push hl2 _
      wp_walk using wpAny_pyIter_tuple hL1, wpAny_pyIter_list hL2
      exact ⟨_, rfl, h⟩
    · have hL1 : Heap.IsList (Shared.heap ⟨hp, g, d, tk, os⟩) l1 xs := hl1
      have hL2 : Heap.IsTuple (Shared.heap ⟨hp.push { cls := .type "list_iterator", data := .fields #[.ref l1, .int 0 0] }, g, d, tk, os⟩) l2 ys := Heap.IsTuple.push hl2 _
      wp_walk using wpAny_pyIter_list hL1, wpAny_pyIter_tuple hL2
      exact ⟨_, rfl, h⟩
    · have hL1 : Heap.IsList (Shared.heap ⟨hp, g, d, tk, os⟩) l1 xs := hl1
      have hL2 : Heap.IsList (Shared.heap ⟨hp.push { cls := .type "list_iterator", data := .fields #[.ref l1, .int 0 0] }, g, d, tk, os⟩) l2 ys := Heap.IsList.push hl2 _
      wp_walk using wpAny_pyIter_list hL1, wpAny_pyIter_list hL2
      exact ⟨_, rfl, h⟩
theorem callM {prog : Program} {w : World} {A : Around} {E : Value → Shared → Prop} {s : Shared} {t1 t2 : Bool} {l1 l2 : Addr} {xs ys : Array Value} {Q : Value → Shared → Prop} (hl1 : OfM t1 s.heap l1 xs) (hl2 : OfM t2 s.heap l2 ys)
    (h : ∀ h', IsZip h' (s.heap.objs.size + 4) (s.heap.objs.size + 2) (s.heap.objs.size + 3) .none → IsTupOf2 h' (s.heap.objs.size + 2) (.ref s.heap.objs.size) (.ref (s.heap.objs.size + 1)) →
      IsTupOf2 h' (s.heap.objs.size + 3) .none .none → ItM t1 h' s.heap.objs.size l1 0 → ItM t2 h' (s.heap.objs.size + 1) l2 0 →
      (∀ c o, s.heap.get? c = some o → h'.get? c = some o) → Q (.ref (s.heap.objs.size + 4)) { s with heap := h' }) :
    wpAny (model prog w) A (call (.type "zip") [.ref l1, .ref l2]) Q E s := by
  refine callType_new F.called_zip (by decide) (F.typeCall_zip_2 _ _) (F.newCall_zip_2 _ _) (fun obj => F.args_object_init_3 obj _ _) F.entry_zip_new
    (meetsM t1 t2 l1 l2 xs ys) ⟨hl1, hl2, ?_⟩
  have z1 : (zM1 t1 s.heap l1).objs.size = s.heap.objs.size + 1 := Heap.size_push ..
  have z2 : (zM2 t1 t2 s.heap l1 l2).objs.size = s.heap.objs.size + 2 := (Heap.size_push ..).trans (by rw [z1])
  have z3 : (zM3 t1 t2 s.heap l1 l2).objs.size = s.heap.objs.size + 3 := (Heap.size_push ..).trans (by rw [z2])
  have z4 : (zM4 t1 t2 s.heap l1 l2).objs.size = s.heap.objs.size + 4 := (Heap.size_push ..).trans (by rw [z3])
  have g5 : (zM5 t1 t2 s.heap l1 l2).get? (zM4 t1 t2 s.heap l1 l2).objs.size = some _ := Heap.get?_push_size _ rfl
  have g4 : (zM5 t1 t2 s.heap l1 l2).get? (zM3 t1 t2 s.heap l1 l2).objs.size = some _ := Heap.get?_push_of_some _ (Heap.get?_push_size _ rfl)
  have g3 : (zM5 t1 t2 s.heap l1 l2).get? (zM2 t1 t2 s.heap l1 l2).objs.size = some _ := Heap.get?_push_of_some _ (Heap.get?_push_of_some _ (Heap.get?_push_size _ rfl))
  have g2 : (zM5 t1 t2 s.heap l1 l2).get? (zM1 t1 s.heap l1).objs.size = some _ := Heap.get?_push_of_some _ (Heap.get?_push_of_some _ (Heap.get?_push_of_some _ (Heap.get?_push_size _ rfl)))
  have g1 : (zM5 t1 t2 s.heap l1 l2).get? s.heap.objs.size = some _ := Heap.get?_push_of_some _ (Heap.get?_push_of_some _ (Heap.get?_push_of_some _ (Heap.get?_push_of_some _ (Heap.get?_push_size _ rfl))))
  show _ ∧ _
  rw [z2, z3, z4] at g5
  rw [z1, z2] at g3
  rw [z3] at g4
  rw [z1] at g2
  rw [z4]
  refine ⟨⟨_, g5, rfl⟩, h _ g5 g3 g4 ?_ ?_ fun c o x =>
    Heap.get?_push_of_some _ (Heap.get?_push_of_some _ (Heap.get?_push_of_some _ (Heap.get?_push_of_some _ (Heap.get?_push_of_some _ x))))⟩
  · cases t1 <;> exact ⟨_, g1, rfl, rfl⟩
  · cases t2 <;> exact ⟨_, g2, rfl, rfl⟩
def iZipM (K : PySem.W.Frag) (t1 t2 : Bool) (ta : TA) : TI := fun σ H R => ta σ H fun vs H1 => ∃ a b xs ys, vs = [.ref a, .ref b] ∧ SqM K t1 H1 a xs ∧ SqM K t2 H1 b ys ∧ R (ItzM K t1 t2 a b) H1
theorem pi_zipM {X : Cx} {t1 t2 : Bool} {e e2 : Expr} {ta : TA} {p pos tpos : Pos} {elts : List Expr} {kk : Nat} (hg : Gl X "zip") (hm : X.mg "zip" = none) (ha : PA X [e, e2] ta)
    (hs : starEach [e, e2] X.env = (false, eval e X.env) :: starEach [e2] X.env := by rfl) (hpl : (backTo pos (starEach [e2] X.env)).any (·.1) = false := by rfl) :
    PI X (.Tuple elts kk tpos) (.Call (.Name "zip" p) [e, e2] [] pos) (iZipM X.K t1 t2 ta) := by
  refine ⟨fun pins s σ H R I h => ?_⟩
  refine Call_ (ld_blt I hg hm PyProof.Rows.boot_zip (PyProof.Rows.callWith_type1 (thn (ha.run pos pins s σ H _ I h) fun us s1 ⟨vs, H1, I1, r1, q1⟩ => ?_) hs hpl))
  obtain ⟨a, b, xs, ys, ex, hqx, hqy, q⟩ := q1
  subst ex
  cases r1 with
  | cons r rr =>
    cases rr with
    | cons r' rr =>
      cases rr
      cases r
      cases r'
      have fresh5 : ∀ c, c ∈ [s1.heap.objs.size + 4, s1.heap.objs.size + 2, s1.heap.objs.size + 3, s1.heap.objs.size, s1.heap.objs.size + 1] → FpOk X pins H1 c := fun c hcm => by
        have e' : c = s1.heap.objs.size + 4 ∨ c = s1.heap.objs.size + 2 ∨ c = s1.heap.objs.size + 3 ∨ c = s1.heap.objs.size ∨ c = s1.heap.objs.size + 1 := by simpa using hcm
        have hle : s1.heap.objs.size ≤ c := by
          rcases e' with z | z | z | z | z
          · rw [z]; exact Nat.le_add_right _ _
          · rw [z]; exact Nat.le_add_right _ _
          · rw [z]; exact Nat.le_add_right _ _
          · rw [z]; exact Nat.le_refl _
          · rw [z]; exact Nat.le_add_right _ _
        exact I1.fpOk hle (I1.hok.fresh hle)
      obtain ⟨its, rv, p1, la⟩ := invM I1 hqx
      obtain ⟨its2, rv2, p2, lb⟩ := invM I1 hqy
      refine callM p1 p2 fun h' hz hTI hTO h1 h2 hk => wpAny_pyIter_zip hz ?_
      have I2 : Inv X pins σ H1 { s1 with heap := h' } := I1.kept (t' := s1.toks) hk
      exact ⟨s1.heap.objs.size + 4, [s1.heap.objs.size + 4, s1.heap.objs.size + 2, s1.heap.objs.size + 3, s1.heap.objs.size, s1.heap.objs.size + 1], _, _, H1, rfl, I2,
        turnM (zip_sep2 (N := s1.heap.objs.size) (fp1 := [a]) (fp2 := [b]) (fun c hc => by cases List.mem_singleton.mp hc; exact la) (fun c hc => by cases List.mem_singleton.mp hc; exact lb)) (Nat.ne_of_lt la) (Nat.ne_of_lt (Nat.lt_succ_of_lt lb)),
        ⟨⟨_, _, hz, .inl rfl⟩, hTI, ⟨_, _, hTO⟩, h1, h2⟩, fresh5, q⟩
end Lm


/-! walks over zip of a list and a tuple; pairs that are drawn; forbidden pairs, pins, menus, bounds by levels -/
namespace Lm
open PySem PySem.Spec PyProof.Rows L2
section
variable {X : Cx} {K : PySem.W.Frag} (hK : X.K = K)
include hK
theorem k_zipM {t1 t2 : Bool} {e e2 : Expr} {ta : TA} {p pos tpos : Pos} {elts : List Expr} {kk : Nat} (hg : Gl X "zip") (hm : X.mg "zip" = none) (ha : PA X [e, e2] ta)
    (hs : starEach [e, e2] X.env = (false, eval e X.env) :: starEach [e2] X.env := by rfl) (hpl : (backTo pos (starEach [e2] X.env)).any (·.1) = false := by rfl) :
    PI X (.Tuple elts kk tpos) (.Call (.Name "zip" p) [e, e2] [] pos) (iZipM K t1 t2 ta) := hK ▸ pi_zipM hg hm ha hs hpl
end
section
variable {c : Ct} {H H' H0 H1 H2 H3 : Hp} {O : List Addr} {Γ Γ' Γ1 : List (Option Rs)}
variable {te ta tb tx ty : TE} {k ka kb kc : Kd} {d x y z : PyData} {ds es : List PyData}
theorem walk_zipM {K : PySem.W.Frag} {t1 t2 : Bool} {p q : Addr} {xs ys : List V} {n : Nat} (hn : n = xs.length) (hl : xs.length = ys.length) : Walk (ItzM K t1 t2 p q) n (fun H => SqM K t1 H p xs ∧ SqM K t2 H q ys) (YPair (fun i => xs[i]?) (fun i => ys[i]?)) where
  goes := fun i _ hi w => ⟨xs, ys, xs[i]'(by omega), ys[i]'(by omega), w.1, w.2, List.getElem?_eq_getElem (by omega), List.getElem?_eq_getElem (by omega)⟩
  stops := fun _ w => ⟨xs, w.1, hn.symm⟩
  yields := fun i H v H' _ w ⟨T, x, z, h1, h2, h3, h4, h5⟩ => ⟨T, x, z, h1, h2, h3, h4 xs w.1, h5 ys w.2⟩
theorem i_zipLT (h1 : Ev c ta Γ ka (.list ds)) (h2 : Ev c tb Γ .v (.tuple es)) (n1 : ka ≠ .b) (hl : ds.length = es.length) : EvI c (iZipM c.K true false (tCons ta (tCons tb tNil))) Γ true (zipD ds es) := fun H0 O H σ e R q =>
  h1 H0 O H σ e _ fun v1 H1 r1 s1 => h2 H0 O H1 σ (e.on r1) _ fun v2 H2 r2 s2 => by
    have r : Rr c H H2 := r1.tr r2
    have b1 : Bo c (mns H2 O) v1 (.list ds) := Res.frozen e r (Res.on e r1 r2 s1) n1
    have b2 : Bo c (mns H2 O) v2 (.tuple es) := s2
    obtain ⟨p, xs, rfl, ok1, sl, al⟩ := b1.lst'
    obtain ⟨p2, ys, rfl, sl2, al2⟩ := b2.tup'
    have lx : xs.length = ys.length := by rw [al.len, al2.len]; exact hl
    refine ⟨p, p2, xs, ys, rfl, mns_same.seq sl, (sqT_same mns_same sl2).sq, q _ H2 r ⟨(e.on r).j, ?_⟩⟩
    have hn : (zipD ds es).length = xs.length := by rw [al.len]; simp [zipD, hl]
    refine (walk_zipM hn lx).mono (fun H h => ⟨h.lst ok1 sl, (h.tup (e.on r).j sl2).sq⟩) fun i H v H' hi g w => ?_
    obtain ⟨T, u1, u2, rfl, hT, rfl, g1, g2⟩ := w
    obtain ⟨d1, hd1, bd1⟩ := al.get g1
    obtain ⟨d2, hd2, bd2⟩ := al2.get g2
    have sm : Same H (upd H T (.tup [u1, u2])) := fun b o z => by rw [upd_ne (ne_of_none z hT)]; exact z
    refine ⟨sm, .t [.d d1, .d d2], ?_, .tup (.inl (.inl upd_same)) (.cons (.leaf (.inr ⟨rfl, bd1⟩)) (.cons (.leaf (.inr ⟨rfl, bd2⟩)) .nil))⟩
    have : (ds.zip es)[i]? = some (d1, d2) := by rw [List.getElem?_zip_eq_some]; exact ⟨hd1, hd2⟩
    simp [zipD, this]
end
/-! ### mathematics -/
/-- pairs of buckets and variants, ascending -/
structure Prd (F : List (List Int)) (v b : Nat) : Prop where
  row : ∀ r ∈ F, ∃ x y : Nat, r = [(x : Int), (y : Int)] ∧ x < b ∧ y < v
  asc : F.Pairwise fun a b => TS.code 1000 a < TS.code 1000 b
  len : F.length ≤ 36
theorem Prd.filter {F : List (List Int)} {v b : Nat} (h : Prd F v b) (p : List Int → Bool) : Prd (F.filter p) v b :=
  ⟨fun r hr => h.row r (List.mem_filter.mp hr).1, h.asc.filter _, Nat.le_trans (List.length_filter_le _ _) h.len⟩
/-- pins: of different buckets -/
structure Pin (P : List (List Int)) (v b : Nat) : Prop extends Prd P v b where
  fst : P.Pairwise fun p q => p.getD 0 0 < q.getD 0 0
def psL (as : List Int) (v : Int) (b : Nat) (C : List (List Int)) : List (List Int) := (allL v b).filter fun f => decide (countsI f v = as) && ((List.range b).map fun k => decide (f.getD k 0 ∈ C.getD k [])).all id
theorem mem_psL {as f : List Int} {v : Int} {b : Nat} {C : List (List Int)} (hv : 0 ≤ v) : f ∈ psL as v b C ↔ f.length = b ∧ (∀ x ∈ f, 0 ≤ x ∧ x < v) ∧ countsI f v = as ∧ ∀ k < b, f.getD k 0 ∈ C.getD k [] := by
  unfold psL
  rw [List.mem_filter, mem_allL hv, Bool.and_eq_true, List.all_map, List.all_eq_true]
  simp only [decide_eq_true_eq, List.mem_range, Function.comp, id]
  constructor
  · rintro ⟨⟨h1, h2⟩, h3, h4⟩; exact ⟨h1, h2, h3, h4⟩
  · rintro ⟨h1, h2, h3, h4⟩; exact ⟨⟨h1, h2⟩, h3, h4⟩
def wrtI (h : Int) (ls : List Int) (y : Int) : Int := (if y = h then 1 else 0) - ls.getD y.toNat 0
def gw (own : List Int) (h : Int) (ls : List Int) : Int := mxL (own.map (wrtI h ls))
def gwS (C : List (List Int)) (f ls : List Int) : Int := ((C.zip f).map fun p => gw p.1 p.2 ls).sum
def mulI (a b : Int) : Int := a * b
theorem gw_ge {own ls : List Int} {h y : Int} (hy : y ∈ own) : wrtI h ls y ≤ gw own h ls := mxL_le _ (List.mem_map_of_mem hy)
/-- no row keeps more than the bound, less the levels it takes -/
theorem kept_le {ls : List Int} : ∀ {C : List (List Int)} {f r : List Int}, C.length = f.length → r.length = f.length → (∀ k < r.length, r.getD k 0 ∈ C.getD k []) →
    (f.length : Int) - zs ne1 f r ≤ gwS C f ls + (r.map fun y => ls.getD y.toNat 0).sum
  | [], [], [], _, _, _ => by simp [gwS, zs]
  | own :: C, h :: f, y :: r, h1, h2, hm => by
    have ih := kept_le (ls := ls) (C := C) (f := f) (r := r) (by simpa using h1) (by simpa using h2) fun k hk => by have := hm (k + 1) (by simpa using hk); simpa using this
    have m0 : y ∈ own := by have := hm 0 (by simp); simpa using this
    have g := gw_ge (ls := ls) (h := h) m0
    have e : gwS (own :: C) (h :: f) ls = gw own h ls + gwS C f ls := by simp [gwS]
    have en : ne1 h y = if h = y then 0 else 1 := rfl
    rw [zs_cons, e, en, List.map_cons, List.sum_cons, List.length_cons]
    unfold wrtI at g
    by_cases q : h = y
    · rw [if_pos q.symm] at g
      rw [if_pos q]
      omega
    · rw [if_neg (fun z => q z.symm)] at g
      rw [if_neg q]
      omega
  | [], _ :: _, _, h, _, _ => by simp at h
  | _ :: _, [], _, h, _, _ => by simp at h
  | _, [], _ :: _, _, h, _ => by simp at h
  | _, _ :: _, [], _, h, _ => by simp at h
theorem nil_sum {α : Type} : ∀ l : List α, (l.map fun _ => (0 : Int)).sum = 0
  | [] => rfl
  | _ :: l => by rw [List.map_cons, List.sum_cons, nil_sum l]; rfl
theorem pick_sum {g : Nat → Int} {x : Nat} : ∀ n : Nat, x < n → ((List.range n).map fun k => if k = x then g k else 0).sum = g x
  | 0, h => by omega
  | n + 1, h => by
    rw [List.range_succ, List.map_append, List.sum_append, List.map_singleton, List.sum_singleton]
    by_cases e : x = n
    · subst e
      have : ((List.range x).map fun k => if k = x then g k else 0) = (List.range x).map fun _ => (0 : Int) := List.map_congr_left fun k hk => if_neg (by have := List.mem_range.mp hk; omega)
      rw [this, if_pos rfl, nil_sum]
      omega
    · rw [pick_sum n (by omega), if_neg (fun z => e z.symm)]
      omega
/-- what the levels give in all -/
theorem lev_sum {ls : List Int} {v : Nat} (hl : ls.length = v) : ∀ {r : List Int}, (∀ x ∈ r, 0 ≤ x ∧ x < (v : Int)) → (r.map fun y => ls.getD y.toNat 0).sum = zs mulI (countsI r v) ls
  | [], _ => by
    unfold zs
    rw [countsI_len, Int.toNat_natCast]
    have : ((List.range v).map fun j => mulI ((countsI [] v).getD j 0) (ls.getD j 0)) = (List.range v).map fun _ => (0 : Int) := List.map_congr_left fun j hj => by
      rw [countsI_get (by have := List.mem_range.mp hj; omega)]
      simp [mulI]
    rw [this, nil_sum]
    rfl
  | y :: r, h => by
    have ih := lev_sum hl (r := r) fun x hx => h x (by simp [hx])
    obtain ⟨y0, y1⟩ := h y (by simp)
    obtain ⟨Y, rfl⟩ := Int.eq_ofNat_of_zero_le y0
    rw [List.map_cons, List.sum_cons, ih, Int.toNat_natCast]
    unfold zs
    rw [countsI_len, countsI_len, Int.toNat_natCast]
    have e : ∀ j ∈ List.range v, mulI ((countsI ((Y : Int) :: r) v).getD j 0) (ls.getD j 0) = (if j = Y then ls.getD j 0 else 0) + mulI ((countsI r v).getD j 0) (ls.getD j 0) := fun j hj => by
      have hj' : (j : Int) < v := by have := List.mem_range.mp hj; omega
      rw [countsI_get hj', countsI_get hj', List.count_cons]
      unfold mulI
      by_cases q : j = Y
      · subst q
        simp [Int.add_mul]
        omega
      · have : ¬ ((Y : Int) = (j : Int)) := by omega
        simp [q, this]
    rw [List.map_congr_left e]
    have add : ∀ (f g : Nat → Int) (l : List Nat), (l.map fun i => f i + g i).sum = (l.map f).sum + (l.map g).sum := fun f g l => by
      induction l with
      | nil => rfl
      | cons a l ih => rw [List.map_cons, List.sum_cons, List.map_cons, List.sum_cons, List.map_cons, List.sum_cons, ih]; omega
    rw [add, pick_sum (g := fun j => ls.getD j 0) v (by omega)]
/-- no possible assignment keeps more than the bound -/
theorem weak {as f r ls : List Int} {v b : Nat} {C : List (List Int)} (hC : C.length = b) (hf : f.length = b) (hl : ls.length = v) (hr : r ∈ psL as v b C) : [] ∉ C ∧ (b : Int) - zs ne1 f r ≤ zs mulI as ls + gwS C f ls := by
  obtain ⟨h1, h2, h3, h4⟩ := (mem_psL (by omega)).mp hr
  refine ⟨fun z => ?_, ?_⟩
  · obtain ⟨k, hk, e⟩ := List.getElem_of_mem z
    have := h4 k (by omega)
    rw [List.getD_eq_getElem?_getD, List.getD_eq_getElem?_getD, List.getElem?_eq_getElem hk, e] at this
    simp at this
  · have := kept_le (ls := ls) (C := C) (f := f) (r := r) (by omega) (by omega) fun k hk => h4 k (by omega)
    rw [lev_sum hl h2, h3] at this
    omega
end Lm


/-! forbidden pairs and pins that are drawn; promises -/
namespace Lm
open PySem PySem.Spec PyProof.Rows L2
structure PrdN (F : List (List Int)) (v n m : Nat) : Prop where
  row : ∀ r ∈ F, ∃ x y : Nat, r = [(x : Int), (y : Int)] ∧ y < v ∧ x * 1000 + y < n * 1000 + m
  asc : F.Pairwise fun a b => TS.code 1000 a < TS.code 1000 b
  len : F.length ≤ n * v + m
theorem PrdN.nil {v : Nat} : PrdN [] v 0 0 := ⟨by simp, List.Pairwise.nil, by simp⟩
structure PinN (P : List (List Int)) (v n : Nat) : Prop where
  row : ∀ r ∈ P, ∃ x y : Nat, r = [(x : Int), (y : Int)] ∧ x < n ∧ y < v
  fst : P.Pairwise fun p q => p.getD 0 0 < q.getD 0 0
  len : P.length ≤ n
theorem PinN.nil {v : Nat} : PinN [] v 0 := ⟨by simp, List.Pairwise.nil, by simp⟩
theorem Pin.nil {v b : Nat} : Pin [] v b := { row := by simp, fst := List.Pairwise.nil, len := by simp, asc := List.Pairwise.nil }
structure Exc (as f : List Int) (F P : List (List Int)) (v b : Nat) : Prop where
  v1 : 1 ≤ v
  v5 : v ≤ 5
  b6 : b ≤ 6
  asg : Asg f (v : Int)
  len : f.length = b
  alc : Alc as (v : Int) (b : Int)
  prd : Prd F v b
  pin : Pin P v b
end Lm


/-! possible assignments: which come first, what is none -/
namespace Lm
open PySem PySem.Spec PyProof.Rows L2
theorem mem_ps {as f : List Int} {v b : Nat} {C : List (List Int)} (al : as.length = v) (hC : C.length = b) (hr : Rng C v) : f ∈ psL as v b C ↔ Fits as C f := by
  rw [mem_psL (by omega), fits_iff (by rw [al]; exact hr), hC]
  have cnt : (countsI f v = as ↔ ∀ x < as.length, (f.count (x : Int) : Int) = as.getD x 0) := by
    constructor
    · intro h x hx
      rw [← h, countsI_get (by omega)]
    · intro h
      apply List.ext_getElem
      · rw [countsI_len]; omega
      · intro i h1 h2
        have e1 : (countsI f v).getD i 0 = (f.count (i : Int) : Int) := countsI_get (by omega)
        rw [h i h2] at e1
        simpa [List.getD_eq_getElem?_getD, h1, h2] using e1
  constructor
  · rintro ⟨h1, h2, h3, h4⟩
    exact ⟨h1, fun i hi => h4 i (by omega), cnt.mp h3⟩
  · rintro ⟨h1, h2, h3⟩
    refine ⟨h1, fun x hx => ?_, cnt.mpr h3, fun k hk => h2 k (by omega)⟩
    obtain ⟨i, hi⟩ := List.getElem?_of_mem hx
    have il := (List.getElem?_eq_some_iff.mp hi).1
    have m := h2 i il
    have fx : f.getD i 0 = x := by rw [List.getD_eq_getElem?_getD, hi]; rfl
    rw [fx] at m
    exact hr _ (gL_mem (by omega)) x m
end Lm


/-! entries of families -/
namespace Lm
open PySem PySem.Spec PyProof.Rows L2
def entI (i : Nat) (n : Int) : List (List Int) := (List.range n.toNat).map fun (p : Nat) => [((i + 1 : Nat) : Int), (p : Int)]
def entL (ns : List Int) : List (List Int) := (List.range ns.length).flatMap fun i => entI i (ns.getD i 0)
/-- the entries -/
theorem mem_ent {ns e : List Int} : e ∈ entL ns ↔ ∃ x y : Nat, e = [((x + 1 : Nat) : Int), (y : Int)] ∧ x < ns.length ∧ (y : Int) < ns.getD x 0 := by
  unfold entL entI
  simp only [List.mem_flatMap, List.mem_map, List.mem_range]
  constructor
  · rintro ⟨x, hx, y, hy, rfl⟩
    exact ⟨x, y, rfl, hx, by omega⟩
  · rintro ⟨x, y, rfl, hx, hy⟩
    exact ⟨x, hx, y, by omega, rfl⟩
end Lm


/-! sorted(xs), xs a list of rows -/
namespace L2
open PySem PySem.Spec PyProof.Rows
end L2
namespace Lm
open PySem PySem.Spec PyProof.Rows L2
section
variable {X : Cx} {K : PySem.W.Frag} (hK : X.K = K)
include hK
end
section
variable {c : Ct} {Γ : List (Option Rs)} {te : TE} {k : Kd}
end
end Lm


/-! tuple * -1 -/
namespace L2
open PySem PySem.Spec PyProof.Rows
end L2
namespace Lm
open PySem PySem.Spec PyProof.Rows L2
section
variable {X : Cx} {K : PySem.W.Frag} (hK : X.K = K)
include hK
end
section
variable {c : Ct} {Γ : List (Option Rs)} {ta tb : TE} {ka kb : Kd} {ds : List PyData} {i : Int}
end
end Lm


namespace Lm
open PySem PySem.Spec PyProof.Rows L2

/-! ### pairs of entries that are used together -/
abbrev E2 := List Int × List Int
theorem tupD_inj {a b : List Int} (h : tupD a = tupD b) : a = b := by
  have : a.map PyData.int = b.map PyData.int := PyData.tuple.inj h
  exact (List.map_inj_right fun x y e => PyData.int.inj e).mp this
structure UsP (A : List (List Int)) (s : List Int) (k : Nat) (Ps : List E2) : Prop where
  nd : Ps.Nodup
  mem : ∀ e f, (e, f) ∈ Ps ↔ (∃ r ∈ A, e ∈ entL r ∧ f ∈ entL r ∧ e ≠ f) ∨ (e ∈ (entL s).take k ∧ f ∈ entL s ∧ e ≠ f)
theorem UsP.nil : UsP [] [] 0 [] := ⟨List.nodup_nil, fun e f => by simp⟩
def newP (s e : List Int) (Ps : List E2) : List E2 := ((entL s).filter fun g => !decide (e = g) && !decide ((e, g) ∈ Ps)).map fun g => (e, g)
theorem UsP.step {A : List (List Int)} {s e : List Int} {k : Nat} {Ps : List E2} (h : UsP A s k Ps) (nd : (entL s).Nodup) (hk : (entL s)[k]? = some e) : UsP A s (k + 1) (Ps ++ newP s e Ps) := by
  refine ⟨?_, fun a b => ?_⟩
  · rw [List.nodup_append]
    refine ⟨h.nd, ?_, fun x hx y hy z => ?_⟩
    · exact List.Pairwise.map _ (fun a b ne z => ne (Prod.mk.inj z).2) (nd.filter _)
    · obtain ⟨g, hg, rfl⟩ := List.mem_map.mp hy
      have := (List.mem_filter.mp hg).2
      rw [Bool.and_eq_true] at this
      subst z
      have w := this.2
      rw [decide_eq_true hx] at w
      cases w
  · rw [List.mem_append, h.mem, List.take_add_one, hk]
    constructor
    · rintro ((w | w) | w)
      · exact .inl w
      · exact .inr ⟨List.mem_append_left _ w.1, w.2⟩
      · obtain ⟨g, hg, z⟩ := List.mem_map.mp w
        obtain ⟨rfl, rfl⟩ := Prod.mk.inj z
        obtain ⟨m, q⟩ := List.mem_filter.mp hg
        rw [Bool.and_eq_true] at q
        refine .inr ⟨by simp, m, ?_⟩
        have := q.1
        simpa using this
    · rintro (w | ⟨w1, w2, w3⟩)
      · exact .inl (.inl w)
      · rcases List.mem_append.mp w1 with q | q
        · exact .inl (.inr ⟨q, w2, w3⟩)
        · have q : a = e := by simpa using q
          subst q
          by_cases m : (a, b) ∈ Ps
          · exact .inl ((h.mem a b).mp m)
          · refine .inr (List.mem_map.mpr ⟨b, List.mem_filter.mpr ⟨w2, ?_⟩, rfl⟩)
            simp [m, w3]
theorem UsP.len {A : List (List Int)} {s : List Int} {k : Nat} {Ps : List E2} (h : UsP A s k Ps) (hA : ∀ r ∈ s :: A, r.length ≤ 4 ∧ ∀ x ∈ r, x ≤ 10) : Ps.length ≤ 1600 := by
  have big : ∀ r ∈ s :: A, ∀ e ∈ entL r, e ∈ entL [10, 10, 10, 10] := fun r hr e he => by
    obtain ⟨x, y, rfl, hx, hy⟩ := mem_ent.mp he
    have hs' := hA r hr
    have := hs'.2 _ (gd_mem hx)
    refine mem_ent.mpr ⟨x, y, rfl, by show x < 4; omega, ?_⟩
    have x4 : x < 4 := by omega
    have : ([10, 10, 10, 10] : List Int).getD x 0 = 10 := by
      match x, x4 with
      | 0, _ => rfl
      | 1, _ => rfl
      | 2, _ => rfl
      | 3, _ => rfl
    omega
  have l40 : (entL [10, 10, 10, 10]).length = 40 := by decide
  refine Nat.le_trans (nodup_sub (m := (entL [10, 10, 10, 10]).flatMap fun e => (entL [10, 10, 10, 10]).map fun f => (e, f)) h.nd fun p hp => ?_) ?_
  · obtain ⟨e, f⟩ := p
    have m : ∃ r ∈ s :: A, e ∈ entL r ∧ f ∈ entL r := by
      rcases (h.mem e f).mp hp with ⟨r, hr, h1, h2, _⟩ | ⟨h1, h2, _⟩
      · exact ⟨r, List.mem_cons_of_mem _ hr, h1, h2⟩
      · exact ⟨s, List.mem_cons_self, List.mem_of_mem_take h1, h2⟩
    obtain ⟨r, hr, h1, h2⟩ := m
    exact List.mem_flatMap.mpr ⟨e, big r hr e h1, List.mem_map_of_mem (big r hr f h2)⟩
  · have : ∀ (l m : List (List Int)), (l.flatMap fun e => m.map fun f => (e, f)).length = l.length * m.length := by
      intro l m
      induction l with
      | nil => simp
      | cons a l ih => rw [List.flatMap_cons, List.length_append, ih, List.length_map, List.length_cons, Nat.succ_mul]; omega
    rw [this, l40]
    decide
end Lm


namespace Lm
open PySem PySem.Spec PyProof.Rows L2

/-! ### while -/
section
variable {c : Ct} {H0 H : Hp} {O : List Addr} {σ : L2.St} {Γ : List (Option Rs)} {P : Out → Prop} {tc : TT} {tb u : TS}
end

/-! ### levels: the mathematics -/
def bvI (own : List Int) (h : Int) (ls : List Int) : List Int := own.filter fun y => decide (wrtI h ls y = gw own h ls)
def bvL (C : List (List Int)) (f ls : List Int) : List (List Int) := (C.zip f).map fun p => bvI p.1 p.2 ls
def upS (c : Int) (p : Pk) (ls : List Int) : List Int := (List.range ls.length).map fun y => ls.getD y 0 + c * b1 (p y)
def bnd (as f : List Int) (C : List (List Int)) (ls : List Int) : Int := zs mulI as ls + gwS C f ls
theorem upS_get {c : Int} {p : Pk} {ls : List Int} {y : Nat} (h : y < ls.length) : (upS c p ls).getD y 0 = ls.getD y 0 + c * b1 (p y) := by
  unfold upS
  rw [List.getD_eq_getElem?_getD, List.getElem?_map, List.getElem?_range h]
  rfl
theorem sumM_add {α : Type} (g h : α → Int) : ∀ l : List α, (l.map fun x => g x + h x).sum = (l.map g).sum + (l.map h).sum
  | [] => rfl
  | a :: l => by simp only [List.map_cons, List.sum_cons, sumM_add g h l]; omega
theorem sumM_mul {α : Type} (c : Int) (h : α → Int) : ∀ l : List α, (l.map fun x => c * h x).sum = c * (l.map h).sum
  | [] => by simp
  | a :: l => by simp only [List.map_cons, List.sum_cons, sumM_mul c h l, Int.mul_add]
theorem zs_up {as ls : List Int} (c : Int) (p : Pk) (h : as.length = ls.length) : zs mulI as (upS c p ls) = zs mulI as ls + c * rmP as p := by
  unfold zs rmP
  rw [← sumM_mul, ← sumM_add]
  congr 1
  refine List.map_congr_left fun j hj => ?_
  have := List.mem_range.mp hj
  rw [upS_get (by omega)]
  unfold mulI b1
  rw [Int.mul_add]
  by_cases q : p j = true
  · rw [if_pos q, if_pos q, Int.mul_one, Int.mul_comm c]
  · rw [if_neg q, if_neg q]; simp
theorem wrt_up {h c : Int} {p : Pk} {ls : List Int} {y : Int} (y0 : 0 ≤ y) (yl : y < ls.length) : wrtI h (upS c p ls) y = wrtI h ls y - c * b1 (p y.toNat) := by
  unfold wrtI
  rw [upS_get (by omega)]
  omega
theorem gw_mem {own ls : List Int} {h : Int} (ne : own ≠ []) : ∃ y ∈ own, wrtI h ls y = gw own h ls := by
  obtain ⟨y, hy, e⟩ := List.mem_map.mp (mxL_mem (ns := own.map (wrtI h ls)) (by rw [List.length_map]; exact List.length_pos_iff.mpr ne))
  exact ⟨y, hy, e⟩
theorem mem_bvI {own ls : List Int} {h y : Int} : y ∈ bvI own h ls ↔ y ∈ own ∧ wrtI h ls y = gw own h ls := by
  unfold bvI
  rw [List.mem_filter, decide_eq_true_iff]
theorem ins_iff {p : Pk} {own : List Int} : insP p own = true ↔ ∀ y ∈ own, p y.toNat = true := by
  unfold insP
  rw [List.all_eq_true]
theorem b1_nn (b : Bool) : 0 ≤ b1 b ∧ b1 b ≤ 1 := by cases b <;> simp [b1]
theorem gw_step {own ls : List Int} {h : Int} {p : Pk} (ne : own ≠ []) (hr : ∀ y ∈ own, 0 ≤ y ∧ y < ls.length) : gw own h (upS 1 p ls) = gw own h ls - b1 (insP p (bvI own h ls)) := by
  have wr : ∀ y ∈ own, wrtI h (upS 1 p ls) y = wrtI h ls y - b1 (p y.toNat) := fun y hy => by
    rw [wrt_up (hr y hy).1 (hr y hy).2]; omega
  obtain ⟨y1, m1, e1⟩ := gw_mem (h := h) (ls := upS 1 p ls) ne
  by_cases hc : insP p (bvI own h ls) = true
  · rw [hc]
    have hp := ins_iff.mp hc
    obtain ⟨y0, m0, e0⟩ := gw_mem (h := h) (ls := ls) ne
    have g0 := gw_ge (ls := upS 1 p ls) (h := h) m0
    rw [wr y0 m0, hp y0 (mem_bvI.mpr ⟨m0, e0⟩), e0] at g0
    have g1 := gw_ge (ls := ls) (h := h) m1
    rw [wr y1 m1] at e1
    show gw own h (upS 1 p ls) = gw own h ls - 1
    have b11 : b1 true = 1 := rfl
    by_cases q : wrtI h ls y1 = gw own h ls
    · rw [hp y1 (mem_bvI.mpr ⟨m1, q⟩)] at e1
      omega
    · have := b1_nn (p y1.toNat)
      omega
  · have hc' : insP p (bvI own h ls) = false := by simpa using hc
    rw [hc']
    have : ∃ y ∈ bvI own h ls, p y.toNat = false := by
      unfold insP at hc'
      rw [List.all_eq_false] at hc'
      obtain ⟨y, hy, q⟩ := hc'
      exact ⟨y, hy, by simpa using q⟩
    obtain ⟨y0, hy0, q0⟩ := this
    obtain ⟨m0, e0⟩ := mem_bvI.mp hy0
    have g0 := gw_ge (ls := upS 1 p ls) (h := h) m0
    rw [wr y0 m0, q0, e0] at g0
    have g1 := gw_ge (ls := ls) (h := h) m1
    rw [wr y1 m1] at e1
    have := b1_nn (p y1.toNat)
    have b10 : b1 false = 0 := rfl
    omega
theorem bv_cons {own : List Int} {C : List (List Int)} {h : Int} {f ls : List Int} : bvL (own :: C) (h :: f) ls = bvI own h ls :: bvL C f ls := rfl
theorem gwS_cons {own : List Int} {C : List (List Int)} {h : Int} {f ls : List Int} : gwS (own :: C) (h :: f) ls = gw own h ls + gwS C f ls := by simp [gwS]
theorem gwS_step {p : Pk} {ls : List Int} : ∀ {C : List (List Int)} {f : List Int}, C.length = f.length → [] ∉ C → Rng C ls.length → gwS C f (upS 1 p ls) = gwS C f ls - cfP (bvL C f ls) p
  | [], [], _, _, _ => by simp [gwS, bvL, cfP]
  | own :: C, h :: f, hl, ne, hr => by
    have ih := gwS_step (p := p) (ls := ls) (C := C) (f := f) (by simpa using hl) (fun z => ne (List.mem_cons_of_mem _ z)) fun o ho => hr o (List.mem_cons_of_mem _ ho)
    rw [gwS_cons, gwS_cons, bv_cons, cf_cons, ih, gw_step (fun z => ne (by rw [z]; exact List.mem_cons_self)) (hr own List.mem_cons_self)]
    omega
  | [], _ :: _, h, _, _ => by simp at h
  | _ :: _, [], h, _, _ => by simp at h
theorem bnd_step {as f ls : List Int} {C : List (List Int)} {p : Pk} (hl : C.length = f.length) (ne : [] ∉ C) (hr : Rng C ls.length) (ha : as.length = ls.length) : bnd as f C (upS 1 p ls) = bnd as f C ls + rmP as p - cfP (bvL C f ls) p := by
  unfold bnd
  rw [zs_up 1 p ha, gwS_step hl ne hr]
  omega
end Lm


namespace Lm
open PySem PySem.Spec PyProof.Rows L2

/-! ### the first levels -/
/-- what the levels of a setting speak of -/
structure LvOk (as f : List Int) (C : List (List Int)) (v b : Nat) : Prop where
  asl : as.length = v
  fl : f.length = b
  cl : C.length = b
  mns : Mns C v
  pw : ∀ own ∈ C, own.Pairwise (· < ·)
  v5 : v ≤ 5
  b20 : b ≤ 20
  alc : Alc as (v : Int) (b : Int)
variable {as f : List Int} {C : List (List Int)} {v b : Nat}
theorem LvOk.hall_ps (h : LvOk as f C v b) : Hall as C ↔ ∃ r, r ∈ psL as v b C := by
  have hr : Rng C as.length := by rw [h.asl]; exact h.mns.rng
  have sum : as.sum = C.length := by rw [h.alc.sum, h.cl]
  constructor
  · intro ha
    exact ⟨_, (mem_ps h.asl h.cl h.mns.rng).mpr (grd_fit hr ha sum)⟩
  · rintro ⟨r, hm⟩
    exact fit_hall hr ((mem_ps h.asl h.cl h.mns.rng).mp hm)
theorem zs_b : ∀ {f r : List Int}, f.length = r.length → 0 ≤ zs ne1 f r ∧ zs ne1 f r ≤ f.length
  | [], [], _ => by simp [zs]
  | x :: f, y :: r, h => by
    have := zs_b (f := f) (r := r) (by simpa using h)
    have e : ne1 x y = if x = y then 0 else 1 := rfl
    rw [zs_cons, e, List.length_cons]
    split <;> omega
  | [], _ :: _, h => by simp at h
  | _ :: _, [], h => by simp at h
theorem LvOk.no_nil (h : LvOk as f C v b) (ha : Hall as C) : [] ∉ C := by
  obtain ⟨r, hr⟩ := h.hall_ps.mp ha
  exact (weak (ls := List.replicate v 0) h.cl h.fl (by simp) hr).1
theorem LvOk.nn (h : LvOk as f C v b) (ha : Hall as C) {ls : List Int} (hl : ls.length = v) : 0 ≤ bnd as f C ls := by
  obtain ⟨r, hr⟩ := h.hall_ps.mp ha
  have w := (weak (ls := ls) h.cl h.fl hl hr).2
  have rl := ((mem_psL (by omega)).mp hr).1
  have z := zs_b (f := f) (r := r) (by rw [h.fl, rl])
  have := h.fl
  unfold bnd
  omega
theorem LvOk.step (h : LvOk as f C v b) (ha : Hall as C) {ls : List Int} {s : List Nat} (hl : ls.length = v) (hs : shS as (bvL C f ls) = some s) : bnd as f C (upS 1 (inS s) ls) < bnd as f C ls := by
  rw [bnd_step (by rw [h.cl, h.fl]) (h.no_nil ha) (by rw [hl]; exact h.mns.rng) (by rw [h.asl, hl])]
  obtain ⟨h1, h2⟩ := sh_some hs
  rw [room_rm h1] at h2
  omega
end Lm


namespace Lm
open PySem PySem.Spec PyProof.Rows L2

/-! ### promises of keeping.py, for up to 20 buckets -/
structure ExcW (as f : List Int) (F P : List (List Int)) (v b : Nat) : Prop where
  v1 : 1 ≤ v
  v5 : v ≤ 5
  b6 : b ≤ 20
  asg : Asg f (v : Int)
  len : f.length = b
  alc : Alc as (v : Int) (b : Int)
  prd : Prd F v b
  pin : Pin P v b
theorem Exc.w {as f : List Int} {F P : List (List Int)} {v b : Nat} (h : Exc as f F P v b) : ExcW as f F P v b := ⟨h.v1, h.v5, by have := h.b6; omega, h.asg, h.len, h.alc, h.prd, h.pin⟩
variable {as f : List Int} {C : List (List Int)} {v b : Nat}
end Lm


namespace Lm
open PySem PySem.Spec PyProof.Rows L2
variable {as f : List Int} {C : List (List Int)} {v b : Nat}
theorem Prd.sub {F F' : List (List Int)} (h : Prd F v b) (s : F'.Sublist F) : Prd F' v b :=
  ⟨fun r hr => h.row r (s.subset hr), h.asc.sublist s, Nat.le_trans s.length_le h.len⟩
theorem Pin.sub {F F' : List (List Int)} (h : Pin F v b) (s : F'.Sublist F) : Pin F' v b :=
  ⟨h.toPrd.sub s, h.fst.sublist s⟩
end Lm


namespace Lm
open PySem PySem.Spec PyProof.Rows L2
section
variable {c : Ct} {H H' H0 H1 H2 H3 : Hp} {O : List Addr} {σ : L2.St} {Γ Γ' : List (Option Rs)} {te ta tx : TE} {k : Kd} {u : TS} {P : Out → Prop} {n : Nat} {x : PyData}
/-! ### where no list of one's own is alive, what a call answers may be kept, lists in it too -/
def bareB : List (Option Rs) → Bool
  | [] => true
  | some (.o _) :: _ => false
  | none :: Γ => bareB Γ
  | some (.v _) :: Γ => bareB Γ
  | some (.r _) :: Γ => bareB Γ
  | some (.d _) :: _ => false
  | some (.w _) :: _ => false
end

/-! ### any evidence (k80) -/
end Lm


namespace Lm
open PySem PySem.Spec PyProof.Rows L2

/-! ### buckets and variants renamed in a setting -/
structure RnS (as as' : List Int) (C C' : List (List Int)) (v b : Nat) (os io nm im : List Int) : Prop where
  o : IsOrd os (b : Int)
  oi : IsOrd io (b : Int)
  q : IsOrd nm (v : Int)
  qi : IsOrd im (v : Int)
  o1 : ∀ k < b, gI io (gI os ((k : Nat) : Int)) = (k : Int)
  o2 : ∀ k < b, gI os (gI io ((k : Nat) : Int)) = (k : Int)
  q1 : ∀ k < v, gI im (gI nm ((k : Nat) : Int)) = (k : Int)
  q2 : ∀ k < v, gI nm (gI im ((k : Nat) : Int)) = (k : Int)
  al : as.length = v
  al' : as'.length = v
  cl : C.length = b
  cl' : C'.length = b
  rg : Rng C v
  rg' : Rng C' v
  sh : ∀ y < v, gI as' (gI nm ((y : Nat) : Int)) = gI as (y : Int)
  mn : ∀ k < b, ∀ y < v, (gI nm ((y : Nat) : Int) ∈ C'.getD (gI os ((k : Nat) : Int)).toNat [] ↔ (y : Int) ∈ C.getD k [])
section
variable {as as' f f' os io nm im : List Int} {C C' : List (List Int)} {v b : Nat}
theorem ord_nat {os : List Int} {m : Nat} (o : IsOrd os (m : Int)) {k : Nat} (hk : k < m) : ∃ j : Nat, gI os (k : Int) = (j : Int) ∧ j < m := by
  have r := o.rng _ (gd_mem (l := os) (j := k) (by have := o.len; omega))
  exact ⟨(os.getD k 0).toNat, by show os.getD k 0 = _; omega, by omega⟩
theorem RnS.symm (h : RnS as as' C C' v b os io nm im) : RnS as' as C' C v b io os im nm := by
  refine ⟨h.oi, h.o, h.qi, h.q, h.o2, h.o1, h.q2, h.q1, h.al', h.al, h.cl', h.cl, h.rg', h.rg, fun y hy => ?_, fun k hk y hy => ?_⟩
  · obtain ⟨z, ez, hz⟩ := ord_nat h.qi hy
    have := h.sh z hz
    rw [← ez, h.q2 y hy] at this
    exact this.symm
  · obtain ⟨z, ez, hz⟩ := ord_nat h.qi hy
    obtain ⟨j, ej, hj⟩ := ord_nat h.oi hk
    have := h.mn j hj z hz
    rw [← ez, ← ej, h.q2 y hy, h.o2 k hk, Int.toNat_natCast, ez] at this
    rw [ez, ej, Int.toNat_natCast]
    exact this.symm
end
end Lm


/-! itertools.permutations(range(n), k), walked -/
namespace PrmK
open PySem PySem.Spec PyProof.Rows L2
/-- the iterator: its items' tuple, 0 before the first item, 1 behind it, 2 at the end; how many it picks; what it handed out; the places and how often each goes round -/
def cells (T : Addr) (st : Int) (r : Nat) (bf : Value) (ns : List Nat) : Array Value := ([.ref T, .int st 0, .int r 0, bf] ++ ns.map fun (i : Nat) => Value.int i 0).toArray
abbrev IsPrm (h : Heap) (it T : Addr) (st : Int) (r : Nat) (bf : Value) (ns : List Nat) : Prop := h.get? it = some { cls := .type "itertools.permutations", dict := none, data := .fields (cells T st r bf ns), slots := #[] }
end PrmK


/-! itertools.permutations(range(n), k): made, its turns -/
namespace PrmK
open PySem PySem.Spec PyProof.Rows L2
end PrmK


/-! itertools.permutations: its turns -/
namespace PrmK
open PySem PySem.Spec PyProof.Rows L2
section
variable {prog : Program} {w : World} {A : Around} {E : Value → Shared → Prop} {s : Shared} {it T : Addr} {bf : Value} {ns : List Nat} {r : Nat} {xs : Array Value}
end
end PrmK


/-! for t in itertools.permutations(range(n), k) -/
namespace Lm
open PySem PySem.Spec PyProof.Rows L2 PrmK
abbrev PrS := List Nat × List Nat
section
variable {c : Ct} {Γ : List (Option Rs)} {te tk : TE} {kd ke : Kd}
end
end Lm


/-! itertools.permutations(range(n), k): made, its turns -/
namespace PrmK
open PySem PySem.Spec PyProof.Rows L2
end PrmK


/-! list(permutations(range(n))) -/
namespace PrmK
open PySem PySem.Spec PyProof.Rows L2
end PrmK
namespace Lm
open PySem PySem.Spec PyProof.Rows L2 PrmK
/-- the iterator at its i-th turn -/
def PAt (k : Nat) (seq : List PrS) (xs : Array Value) (h : Heap) (it T : Addr) (i : Nat) : Prop := ∃ bf st ns, IsPrm h it T st k bf ns ∧ h.IsTuple T xs ∧ ((i = 0 ∧ st = 0 ∧ ∃ s, seq[0]? = some s ∧ ns = s.1 ++ s.2) ∨ (∃ j, i = j + 1 ∧ st = 1 ∧ ∃ s, seq[j]? = some s ∧ ns = s.1 ++ s.2))
theorem PAt.at {k : Nat} {seq : List PrS} {xs : Array Value} {h h' : Heap} {it T : Addr} {i : Nat} (p : PAt k seq xs h it T i) (kk : ∀ c ∈ [it, T], ∀ o, h.get? c = some o → h'.get? c = some o) : PAt k seq xs h' it T i := by
  obtain ⟨bf, st, ns, hz, ⟨o, ho, r⟩, cs⟩ := p
  exact ⟨bf, st, ns, kk it (by simp) _ hz, ⟨o, kk T (by simp) _ ho, r⟩, cs⟩
section
variable {prog : Program} {w : World} {A : Around} {E : Value → Shared → Prop} {s : Shared} {it T : Addr} {n k : Nat} {seq : List PrS} {xs : Array Value}
end
section
variable {prog : Program} {w : World} {A : Around} {R : Result → Shared → Prop}
end
section
variable {prog : Program} {w : World} {A : Around} {E : Value → Shared → Prop} {s : Shared}
end
section
variable {c : Ct} {H H' : Hp} {Γ : List (Option Rs)} {te : TE} {kd : Kd}
end
end Lm


/-! sorted(xs), xs a list of data that can be compared -/
namespace L2
open PySem PySem.Spec PyProof.Rows
theorem dpAll_len {K : PySem.W.Frag} {H : Hp} : ∀ {xs : List V} {ds : List PyData}, DpAll K H xs ds → xs.length = ds.length
  | _, _, .nil => rfl
  | _, _, .cons _ t => by simp [dpAll_len t]
end L2
namespace Lm
open PySem PySem.Spec PyProof.Rows L2
section
variable {X : Cx} {K : PySem.W.Frag} (hK : X.K = K)
include hK
end
theorem bo_mem {c : Ct} {H : Hp} : ∀ {xs : List V} {ds : List PyData}, BoAll c H xs ds → ∀ q ∈ xs.zip ds, Bo c H q.1 q.2
  | _, _, .nil, q, h => by simp at h
  | _, _, .cons b t, q, h => by
    rcases List.mem_cons.mp h with w | w
    · rw [w]; exact b
    · exact bo_mem t q w
section
variable {c : Ct} {Γ : List (Option Rs)} {te : TE} {k : Kd}
end
end Lm


/-! sets by size, and what shows that one is too small, for any value (k76) -/
namespace Lm
open PySem PySem.Spec PyProof.Rows L2
theorem dataLt_rows (xs ys : List Int) : PySem.W.dataLt (tupD xs) (tupD ys) = decide (xs < ys) := by
  unfold tupD
  rw [PySem.W.dataLt_tuple]
  exact PySem.W.dataLt_ints xs ys
theorem alike_rows (xs ys : List Int) : PySem.W.alike (tupD xs) (tupD ys) = true := by
  unfold tupD PySem.W.alike
  exact PySem.W.alike_ints xs ys
end Lm


/-! a comprehension whose items stay, lists in them too; a for loop over such things -/
namespace Lm
open PySem PySem.Spec PyProof.Rows L2
section
variable {c : Ct} {H H' H0 H1 H2 H3 H4 : Hp} {O : List Addr} {σ : L2.St} {Γ Γ' : List (Option Rs)} {te ta tb tx : TE} {tr : TA} {k ka kb : Kd} {u : TS} {P : Out → Prop} {n : Nat} {x d : PyData} {ds : List PyData} {fz : Bool}
end
end Lm
namespace Lm
open PySem PySem.Spec PyProof.Rows L2
/-! ### any value: what shows that a set is too small -/
def SmF (x : PyData) : Prop := ∀ es, x = .tuple es → es.length < 64
theorem SmF.t {x : PyData} (h : SmF x) : SmallT x := fun es e => by have := h es e; omega
end Lm
namespace Lm
open PySem PySem.Spec PyProof.Rows L2
end Lm
namespace Lm
open PySem PySem.Spec PyProof.Rows L2
end Lm


namespace Lm
open PySem PySem.Spec PyProof.Rows L2
section
variable {c : Ct} {H H' H0 H1 H2 H3 H4 : Hp} {O : List Addr} {σ : L2.St} {Γ Γ' : List (Option Rs)} {te ta tb tx : TE} {tt : TT} {tr : TA} {k ka kb : Kd} {u : TS} {n : Nat} {x d : PyData} {ds : List PyData} {fz : Bool}
end
theorem smf_len {es : List PyData} (h : es.length < 64) : SmF (.tuple es) := fun es' e => by cases e; exact h
theorem smf_tup {ns : List Int} (h : ns.length < 64) : SmF (tupD ns) := smf_len (by simpa using h)
theorem smf_no {x : PyData} (h : ∀ es, x ≠ .tuple es) : SmF x := fun es e => absurd e (h es)
end Lm


/-! displays of which some items are drawn -/
namespace Lm
open PySem PySem.Spec PyProof.Rows L2
def EvAN (c : Ct) (ta : TA) (Γ : List (Option Rs)) (Pd : List PyData → Prop) : Prop :=
  ∀ H0 O H σ, Env c H0 O H σ Γ → ∀ Q : List V → Hp → Prop, (∀ vs ds H2, Pd ds → Rr c H H2 → BoAll c (mns H2 O) vs ds → Q vs H2) → ta σ H Q
section
variable {c : Ct} {H H' H0 H1 H2 H3 H4 : Hp} {O : List Addr} {σ : L2.St} {Γ Γ' : List (Option Rs)} {te ta tb tx : TE} {tr : TA} {k ka kb : Kd} {u : TS} {n : Nat} {x d : PyData} {ds : List PyData} {P P' : PyData → Prop} {Pd : List PyData → Prop}
theorem EvAN.imp {P2 : List PyData → Prop} (h : EvAN c tr Γ Pd) (i : ∀ ds, Pd ds → P2 ds) : EvAN c tr Γ P2 := fun H0 O H σ e Q q => h H0 O H σ e Q fun vs ds H2 p => q vs ds H2 (i ds p)
end
theorem smf_i {i : Int} : SmF (.int i) := smf_no fun es e => by cases e
end Lm


/-! sorted(xs, key=len), xs a list of lists -/
namespace L2
open PySem PySem.Spec PyProof.Rows
end L2
namespace L2
open PySem PySem.Spec PyProof.Rows
end L2
namespace Lm
open PySem PySem.Spec PyProof.Rows L2
def lenI (a b : List Int) : Bool := decide ((a.length : Int) ≤ (b.length : Int))
section
variable {c : Ct} {Γ : List (Option Rs)} {te : TE} {k : Kd}
end
end Lm
namespace Lm
open PySem PySem.Spec PyProof.Rows L2
end Lm
namespace Lm
open PySem PySem.Spec PyProof.Rows L2
end Lm
namespace Lm
open PySem PySem.Spec PyProof.Rows L2
end Lm
namespace Lm
open PySem PySem.Spec PyProof.Rows L2
def SmL (x : PyData) : Prop := ∀ es, x = .tuple es → es.length ≤ 1000 ∧ ∀ r ∈ es, SmF r
end Lm


/-! lists by whomever (k56) -/
namespace Lm
open PySem PySem.Spec PyProof.Rows L2
/-! ### rules: a slice whose end is drawn, tuples of which one is drawn -/
section
variable {c : Ct} {H H' H0 H1 H2 H3 : Hp} {O : List Addr} {Γ Γ' Γ1 : List (Option Rs)}
variable {te ta tb tx : TE} {tl th : TO} {k ka kb : Kd} {d x y z : PyData} {i j : Int} {a b : Bool} {ds es : List PyData}
end
/-! ### the mathematics -/
inductive RwX : PyData → Prop
  | row {ns : List Int} : ns.length ≤ 60 → RwX (tupD ns)
  | bad {ns : List Int} : ns.length ≤ 60 → RwX (.tuple (ns.map .int ++ [.bool true]))
  | int (i : Int) : RwX (.int i)
def LsX (x : PyData) : Prop := x = .none ∨ (∃ xs, x = .list xs) ∨ ∃ es, x = .tuple es ∧ es.length ≤ 10 ∧ ∀ e ∈ es, RwX e
theorem RwX.sm {e : PyData} (h : RwX e) : SmF e := by
  cases h with
  | row h => exact smf_tup (by omega)
  | bad h => exact smf_len (by simp; omega)
  | int i => exact smf_i
theorem LsX.sm {x : PyData} (h : LsX x) : SmL x := fun es e => by
  subst e
  rcases h with h | ⟨xs, h⟩ | ⟨es', h, hl, hr⟩
  · cases h
  · cases h
  · cases h
    exact ⟨by omega, fun r hr' => (hr r hr').sm⟩
/-! ### the promises -/
end Lm


/-! the first list that serves (k55, k20) -/
namespace Lm
open PySem PySem.Spec PyProof.Rows L2
/-! ### sets that grow, each ascending -/
def addF (acc row : List Int) : List Int := acc ++ row.filter fun x => !decide (x ∈ acc)
structure Grow (acc : List Int) (R : List (List Int)) : Prop where
  nd : acc.Nodup
  asc : ∀ S ∈ R, S.Pairwise (· < ·)
  sub : ∀ S ∈ R, ∀ x ∈ acc, x ∈ S
  pw : R.Pairwise fun S T => ∀ x ∈ S, x ∈ T
theorem asc_nd {S : List Int} (h : S.Pairwise (· < ·)) : S.Nodup := h.imp fun w e => by omega
theorem add_perm {acc S : List Int} (nd : acc.Nodup) (ns : S.Nodup) (sub : ∀ x ∈ acc, x ∈ S) : (addF acc S).Perm S := by
  unfold addF
  refine (List.perm_ext_iff_of_nodup ?_ ns).mpr fun x => ?_
  · rw [List.nodup_append]
    exact ⟨nd, ns.filter _, fun a ha b hb e => by
      have := (List.mem_filter.mp hb).2
      rw [e] at ha
      simp [ha] at this⟩
  · rw [List.mem_append, List.mem_filter]
    constructor
    · rintro (h | h)
      · exact sub x h
      · exact h.1
    · intro h
      by_cases q : x ∈ acc
      · exact .inl q
      · exact .inr ⟨h, by simp [q]⟩
theorem Grow.step {acc S : List Int} {R : List (List Int)} (h : Grow acc (S :: R)) : (addF acc S).Perm S ∧ Grow (addF acc S) R := by
  have p1 := List.pairwise_cons.mp h.pw
  have p := add_perm h.nd (asc_nd (h.asc S (by simp))) (h.sub S (by simp))
  exact ⟨p, ⟨p.nodup_iff.mpr (asc_nd (h.asc S (by simp))), fun T hT => h.asc T (by simp [hT]), fun T hT x hx => p1.1 T hT x (p.mem_iff.mp hx), p1.2⟩⟩
theorem Grow.fold : ∀ {R : List (List Int)} {acc : List Int}, Grow acc R → acc <+: R.foldl addF acc ∧ (R.foldl addF acc).Nodup ∧ (∀ S ∈ R, ((R.foldl addF acc).take S.length).Perm S) ∧ ∀ S, R.getLast? = some S → (R.foldl addF acc).Perm S
  | [], acc, h => ⟨List.prefix_refl _, h.nd, (fun S hS => nomatch hS), fun S hS => nomatch hS⟩
  | S :: R, acc, h => by
    obtain ⟨p, g⟩ := h.step
    obtain ⟨i1, i2, i3, i4⟩ := g.fold
    rw [List.foldl_cons]
    refine ⟨(List.prefix_append _ _).trans i1, i2, fun T hT => ?_, fun T hT => ?_⟩
    · rcases List.mem_cons.mp hT with w | w
      · obtain ⟨t, ht⟩ := i1
        rw [w, ← ht, List.take_append_of_le_length (by rw [p.length_eq]; exact Nat.le_refl _), List.take_of_length_le (by rw [p.length_eq]; exact Nat.le_refl _)]
        exact p
      · exact i3 T w
    · cases R with
      | nil =>
        have : T = S := by simpa using hT.symm
        rw [this]; exact p
      | cons U R => exact i4 T (by simpa using hT)
end Lm
namespace Lm
open PySem PySem.Spec PyProof.Rows L2
/-- sets of which any two are one in the other, by size -/
structure Chn (M : List (List Int)) : Prop where
  asc : ∀ S ∈ M, S.Pairwise (· < ·)
  sub : ∀ S ∈ M, ∀ T ∈ M, S.length ≤ T.length → ∀ x ∈ S, x ∈ T
theorem sort_mem {M : List (List Int)} {S : List Int} : S ∈ M.mergeSort lenI ↔ S ∈ M := (List.mergeSort_perm _ _).mem_iff
theorem sort_len (M : List (List Int)) : (M.mergeSort lenI).Pairwise fun S T => S.length ≤ T.length := by
  have := List.pairwise_mergeSort (le := lenI) (fun a b c h1 h2 => by unfold lenI at *; simp at *; omega) (fun a b => by unfold lenI; simp; omega) M
  exact this.imp fun h => by unfold lenI at h; simp at h; omega
theorem Chn.grow {M : List (List Int)} (h : Chn M) : Grow [] (M.mergeSort lenI) := ⟨List.nodup_nil, fun S hS => h.asc S (sort_mem.mp hS), (fun S _ x hx => nomatch hx), by
  have := sort_len M
  exact this.imp_of_mem fun {S T} hS hT l => h.sub S (sort_mem.mp hS) T (sort_mem.mp hT) l⟩
def slM (M : List (List Int)) : List Int := (M.mergeSort lenI).foldl addF []
theorem Chn.nd {M : List (List Int)} (h : Chn M) : (slM M).Nodup := h.grow.fold.2.1
theorem Chn.take {M : List (List Int)} (h : Chn M) {S : List Int} (hS : S ∈ M) : ((slM M).take S.length).Perm S := h.grow.fold.2.2.1 S (sort_mem.mpr hS)
/-! ### the first list of a rule (k55) -/
end Lm


/-! first lists of a table (k20, k21) -/
namespace Lm
open PySem PySem.Spec PyProof.Rows L2
/-! ### the full lists -/
def rngI (b : Nat) : List Int := (List.range b).map fun (i : Nat) => (i : Int)
theorem mem_rngI {b : Nat} {x : Int} : x ∈ rngI b ↔ 0 ≤ x ∧ x < b := by
  unfold rngI
  rw [List.mem_map]
  constructor
  · rintro ⟨i, hi, rfl⟩
    have := List.mem_range.mp hi
    omega
  · intro h
    exact ⟨x.toNat, List.mem_range.mpr (by omega), by omega⟩
/-! ### the promises -/
end Lm


/-! what lists give, told or refused (k22) -/
namespace Lm
open PySem PySem.Spec PyProof.Rows L2
section
variable {K : PySem.W.Frag} {C : Addr} {σ : L2.St} {nm : Str}
end
/-! ### any value as an allocation -/
/-! ### what is due -/
/-! ### lists of distinct buckets -/
structure Dst (r : List Int) : Prop where
  nd : r.Nodup
  rg : ∀ x ∈ r, 0 ≤ x ∧ x < 20
theorem Dst.len {r : List Int} (h : Dst r) : r.length ≤ 20 := by
  have := List.Nodup.length_le_of_subset (l₁ := r) (l₂ := rngI 20) h.nd fun x hx => by
    have := h.rg x hx
    exact mem_rngI.mpr (by omega)
  unfold rngI at this
  simpa using this
end Lm


/-! a comprehension of two clauses -/
namespace Lm
open PySem PySem.Spec PyProof.Rows L2
section
variable {c : Ct} {H H' H0 H1 H2 H3 H4 : Hp} {O : List Addr} {σ σ1 : L2.St} {Γ Γ1 Γ' : List (Option Rs)} {te : TE} {fz : Bool} {k : Kd} {u : TS} {P : Out → Prop} {n : Nat}
theorem Reps.bareM {fp : List Addr} {D : Addr} (j : Ji c (mns H O)) (rm : Rr c (mns H O) (mns H' O)) (h : Reps c O H σ Γ fp) : bareB Γ = true → Reps c O H' σ Γ [] := by
  induction h with
  | nil => intro _; exact .nil
  | @cons x s f fs σ Γ a b ih =>
    intro hb
    cases s with
    | none => exact .cons (f := []) (fs := []) rfl (ih hb)
    | some s =>
      cases s with
      | o d => cases hb
      | d u => cases hb
      | w ds => cases hb
      | v d =>
        obtain ⟨_, v, hv, bo⟩ := a
        exact .cons (f := []) (fs := []) ⟨rfl, v, hv, bo.mono j rm⟩ (ih hb)
      | r y => exact .cons (f := []) (fs := []) ⟨rfl, a.2⟩ (ih hb)
end
end Lm
namespace Lm
open PySem PySem.Spec PyProof.Rows L2
/-! ### all tables of a plan (k39 to k43, k52) -/
def tblD (t : List (List Int)) : PyData := .tuple (t.map tupD)
/-! ### buckets may be told in another order -/
/-! ### how many there are -/
theorem tbl_app {t : List (List Int)} {r : List Int} : PyData.tuple (t.map tupD ++ [tupD r]) = tblD (t ++ [r]) := by
  unfold tblD
  rw [List.map_append]
  rfl
theorem fl_tbl (T : List (List (List Int))) : flatAll (T.map tblD) = true := flatAll_mem fun d hd => by
  obtain ⟨t, _, rfl⟩ := List.mem_map.mp hd
  exact fl_rows t
/-! ### the promises -/
/-! ### plans that go round -/
end Lm


/-! xs[i] = ys.pop(k); [rows[x].pop(0) for x in ..] -/
namespace Lm
open PySem PySem.Spec PyProof.Rows L2
section
variable {c : Ct} {H H' H0 H1 H2 H3 : Hp} {O : List Addr} {σ : L2.St} {Γ Γ' Γ1 : List (Option Rs)}
variable {te ta tb tx : TE} {tr : TA} {u : TS} {k ka kb : Kd} {d x y z : PyData} {i j : Int} {ds es : List PyData} {P : Out → Prop}
theorem Env.bareR (e : Env c H0 O H σ Γ) (hb : bareB Γ = true) : Reps c O H σ Γ [] := let ⟨_, hr, _⟩ := e.rep; hr.bareM (D := 0) e.j Rr.rf hb
theorem Env.take (e : Env c H0 O H σ Γ) (hb : bareB Γ = true) {n : Nat} {a : Addr} {ns : List Int} (ha : a ∈ O) (h : H a = some (.lst (ns.map V.int))) : Env c H0 O H (σ.set n (some (.ref a))) (Γ.set n (some (.o (.list (ns.map .int))))) := by
  have hr := e.bareR hb
  refine ⟨e.r0, e.j, e.fr, e.dm, ?_⟩
  by_cases hi : n < Γ.length
  · obtain ⟨x, f, pre, post, h1, h2, h3, h4⟩ := hr.nth (s := Γ[n]) (List.getElem?_eq_getElem hi)
    have h3' := h3.symm
    rw [List.append_eq_nil_iff, List.append_eq_nil_iff] at h3'
    obtain ⟨rfl, rfl, rfl⟩ := h3'
    exact ⟨[a], h4 O H _ _ [a] (fun _ _ _ _ z => z) ⟨.ref a, rfl, .lst h (FoAll.leaves (flatAll_ints _) (BoAll.ofInts _))⟩, by simp, fun b hb => by cases List.mem_singleton.mp hb; exact ha⟩
  · have hs : ¬ n < σ.length := by rw [hr.len]; exact hi
    rw [List.set_eq_of_length_le (by omega), List.set_eq_of_length_le (by omega)]
    exact ⟨[], hr, List.nodup_nil, fun a h => nomatch h⟩
/-! ### rows from which the first ones are taken -/
end
end Lm


/-! itertools.combinations(list, k) -/
namespace CmbK
open PySem PySem.Spec PyProof.Rows L2
end CmbK


/-! calm histories: the mathematics (k48) -/
namespace Lm
open PySem PySem.Spec PyProof.Rows L2
/-- the buckets that still have the variant of the start -/
def frO : List Int → List Int → List Int
  | a :: f, c :: s => if a = c then a :: frO f s else frO f s
  | _, _ => []
/-- the fresh ones get new variants, one after another -/
def mrg : List Int → List Int → List Int → List Int
  | a :: f, c :: s, h => if a = c then h.headD 0 :: mrg f s h.tail else a :: mrg f s h
  | _, _, _ => []
/-- only fresh buckets move -/
def Clm : List Int → List Int → List Int → Prop
  | a :: f, c :: s, x :: g => (a = c ∨ x = a) ∧ Clm f s g
  | [], [], [] => True
  | _, _, _ => False
theorem clm_len : ∀ {f s g : List Int}, Clm f s g → g.length = f.length
  | [], [], [], _ => rfl
  | a :: f, c :: s, x :: g, h => by simp [clm_len h.2]
  | [], [], _ :: _, h => h.elim
  | [], _ :: _, [], h => h.elim
  | [], _ :: _, _ :: _, h => h.elim
  | _ :: _, [], [], h => h.elim
  | _ :: _, [], _ :: _, h => h.elim
  | _ :: _, _ :: _, [], h => h.elim
theorem out_cons (i : Int) (p : Int × Int) (r : List (Int × Int)) : outI i (p :: r) = (if p.1 = i ∧ p.2 ≠ i then 1 else 0) + outI i r := rfl
theorem inn_cons (i : Int) (p : Int × Int) (r : List (Int × Int)) : innI i (p :: r) = (if p.2 = i ∧ p.1 ≠ i then 1 else 0) + innI i r := rfl
theorem ite_self0 (i a : Int) : (if a = i ∧ a ≠ i then (1 : Int) else 0) = 0 := if_neg fun w => w.2 w.1
theorem mrg_clm : ∀ {f s h : List Int}, f.length = s.length → h.length = (frO f s).length → Clm f s (mrg f s h) ∧ (mrg f s h).length = f.length ∧ (∀ i, outI i (f.zip (mrg f s h)) = outI i ((frO f s).zip h)) ∧ (∀ i, innI i (f.zip (mrg f s h)) = innI i ((frO f s).zip h)) ∧ ∀ x ∈ mrg f s h, x ∈ h ∨ x ∈ f
  | [], [], h, _, _ => ⟨trivial, rfl, fun i => by simp [mrg, frO], fun i => by simp [mrg, frO], fun x hx => by simp [mrg] at hx⟩
  | [], _ :: _, _, e, _ => by simp at e
  | _ :: _, [], _, e, _ => by simp at e
  | a :: f, c :: s, h, e, l => by
    have e' : f.length = s.length := by simpa using e
    unfold mrg frO
    unfold frO at l
    by_cases q : a = c
    · rw [if_pos q] at l
      rw [if_pos q, if_pos q]
      match h, l with
      | y :: h, l =>
        obtain ⟨h1, h2, h3, h4, h5⟩ := mrg_clm (f := f) (s := s) (h := h) e' (by simpa using l)
        refine ⟨⟨.inl q, h1⟩, by simp [h2], fun i => ?_, fun i => ?_, fun x hx => ?_⟩
        · show outI i ((a, y) :: f.zip (mrg f s h)) = outI i ((a, y) :: (frO f s).zip h)
          rw [out_cons, out_cons, h3]
        · show innI i ((a, y) :: f.zip (mrg f s h)) = innI i ((a, y) :: (frO f s).zip h)
          rw [inn_cons, inn_cons, h4]
        · rcases List.mem_cons.mp hx with w | w
          · exact .inl (by rw [w]; simp)
          · rcases h5 x w with u | u
            · exact .inl (by simp [u])
            · exact .inr (by simp [u])
    · rw [if_neg q] at l
      rw [if_neg q, if_neg q]
      obtain ⟨h1, h2, h3, h4, h5⟩ := mrg_clm (f := f) (s := s) (h := h) e' l
      refine ⟨⟨.inr rfl, h1⟩, by simp [h2], fun i => ?_, fun i => ?_, fun x hx => ?_⟩
      · show outI i ((a, a) :: f.zip (mrg f s h)) = _
        rw [out_cons, h3, ite_self0]
        omega
      · show innI i ((a, a) :: f.zip (mrg f s h)) = _
        rw [inn_cons, h4, ite_self0]
        omega
      · rcases List.mem_cons.mp hx with w | w
        · exact .inr (by rw [w]; simp)
        · rcases h5 x w with u | u
          · exact .inl u
          · exact .inr (by simp [u])
theorem mrg_of : ∀ {f s g : List Int}, Clm f s g → ∃ h, h.length = (frO f s).length ∧ g = mrg f s h
  | [], [], [], _ => ⟨[], rfl, rfl⟩
  | a :: f, c :: s, x :: g, w => by
    obtain ⟨h, l, e⟩ := mrg_of w.2
    unfold mrg frO
    by_cases q : a = c
    · rw [if_pos q]
      exact ⟨x :: h, by simp [l], by rw [if_pos q, ← show mrg f s h = g from e.symm]; rfl⟩
    · rw [if_neg q]
      refine ⟨h, l, ?_⟩
      rw [if_neg q, ← e, w.1.resolve_left q]
  | [], [], _ :: _, h => h.elim
  | [], _ :: _, [], h => h.elim
  | [], _ :: _, _ :: _, h => h.elim
  | _ :: _, [], [], h => h.elim
  | _ :: _, [], _ :: _, h => h.elim
  | _ :: _, _ :: _, [], h => h.elim
theorem mrg_le : ∀ {f s h k : List Int}, f.length = s.length → h.length = (frO f s).length → k.length = (frO f s).length → lexLe h k → lexLe (mrg f s h) (mrg f s k)
  | [], [], _, _, _, _, _, _ => trivial
  | [], _ :: _, _, _, e, _, _, _ => by simp at e
  | _ :: _, [], _, _, e, _, _, _ => by simp at e
  | a :: f, c :: s, h, k, e, lh, lk, w => by
    have e' : f.length = s.length := by simpa using e
    unfold mrg
    unfold frO at lh lk
    by_cases q : a = c
    · rw [if_pos q] at lh lk
      rw [if_pos q, if_pos q]
      match h, k, lh, lk, w with
      | x :: h, y :: k, lh, lk, w =>
        rcases w with w | ⟨rfl, w⟩
        · exact .inl w
        · exact .inr ⟨rfl, mrg_le e' (by simpa using lh) (by simpa using lk) w⟩
    · rw [if_neg q] at lh lk
      rw [if_neg q, if_neg q]
      exact .inr ⟨rfl, mrg_le e' lh lk w⟩
theorem fr_step : ∀ {f s g : List Int} (i : Int), Clm f s g → ((frO g s).count i : Int) + outI i (f.zip g) = (frO f s).count i
  | [], [], [], i, _ => by simp [frO, outI]
  | a :: f, c :: s, x :: g, i, w => by
    have ih := fr_step i w.2
    show ((frO (x :: g) (c :: s)).count i : Int) + outI i ((a, x) :: f.zip g) = (frO (a :: f) (c :: s)).count i
    rw [out_cons]
    unfold frO
    simp only
    by_cases q : a = c
    · subst q
      rw [if_pos rfl]
      by_cases p : x = a
      · subst p
        rw [if_pos rfl, ite_self0, List.count_cons, List.count_cons]
        split <;> omega
      · rw [if_neg p, List.count_cons]
        by_cases r : a = i
        · subst r
          have z : (if a = a ∧ x ≠ a then (1 : Int) else 0) = 1 := if_pos ⟨rfl, p⟩
          rw [z]
          simp
          omega
        · have z : (if a = i ∧ x ≠ i then (1 : Int) else 0) = 0 := if_neg fun w => r w.1
          rw [z]
          simp [r]
          omega
    · have := w.1.resolve_left q
      subst this
      rw [if_neg q, if_neg q, ite_self0]
      omega
  | [], [], _ :: _, _, h => h.elim
  | [], _ :: _, [], _, h => h.elim
  | [], _ :: _, _ :: _, _, h => h.elim
  | _ :: _, [], [], _, h => h.elim
  | _ :: _, [], _ :: _, _, h => h.elim
  | _ :: _, _ :: _, [], _, h => h.elim
theorem fr_self : ∀ s : List Int, frO s s = s
  | [] => rfl
  | a :: s => by unfold frO; rw [if_pos rfl, fr_self s]
theorem fr_mem : ∀ {f s : List Int} {x : Int}, x ∈ frO f s → x ∈ f
  | [], _, x, h => by simp [frO] at h
  | _ :: _, [], x, h => by simp [frO] at h
  | a :: f, c :: s, x, h => by
    unfold frO at h
    split at h
    · rcases List.mem_cons.mp h with w | w
      · rw [w]; simp
      · exact List.mem_cons_of_mem _ (fr_mem w)
    · exact List.mem_cons_of_mem _ (fr_mem h)
theorem fr_len : ∀ {f s : List Int}, (frO f s).length ≤ f.length
  | [], _ => by simp [frO]
  | _ :: _, [] => by simp [frO]
  | a :: f, c :: s => by
    have := fr_len (f := f) (s := s)
    unfold frO
    split <;> simp <;> omega
variable {v : Int} {f s as g : List Int}
/-- what the change has to do, told of the fresh buckets -/
def frS (v : Int) (f s as : List Int) : S3 := ⟨countsI (frO f s) v, (s0I v f as).l, (s0I v f as).e⟩
theorem frS_st (hf : Asg f v) (ha : Alc as v f.length) (hv : 0 ≤ v) (ok : ∀ i, 0 ≤ i ∧ i < v → gI (s0I v f as).l i ≤ (frO f s).count i) : St v (frS v f s as) (frO f s) := by
  have st := st0 hf ha hv
  refine ⟨?_, st.ll, st.el, fun i hi => ?_, fun i hi => ⟨(st.ls i hi).1, ok i hi⟩, st.es, st.sum, fun n hn => hf.rng n (fr_mem hn)⟩
  · show ((countsI (frO f s) v).length : Int) = v
    unfold countsI
    rw [List.length_map]
    simp [upI]
    omega
  · show gI (countsI (frO f s) v) i = _
    unfold gI
    rw [countsI_get (by omega), Int.toNat_of_nonneg hi.1]
/-- the calm change -/
def nxtC (v : Int) (s f as : List Int) : List Int := mrg f s (firstI (frS v f s as) (frO f s))
theorem fit_mrg (hl : f.length = s.length) (hf : Asg f v) {h : List Int} (lh : h.length = (frO f s).length) (hr : ∀ x ∈ h, 0 ≤ x ∧ x < v) : Fit v (s0I v f as) f (mrg f s h) ↔ Fit v (frS v f s as) (frO f s) h := by
  obtain ⟨h1, h2, h3, h4, h5⟩ := mrg_clm hl lh
  constructor
  · rintro ⟨a, b, c, d⟩
    exact ⟨lh, hr, fun i hi => by rw [← h3]; exact c i hi, fun i hi => by rw [← h4]; exact d i hi⟩
  · rintro ⟨a, b, c, d⟩
    refine ⟨h2, fun x hx => ?_, fun i hi => by rw [h3]; exact c i hi, fun i hi => by rw [h4]; exact d i hi⟩
    rcases h5 x hx with w | w
    · exact b x w
    · exact hf.rng x w
theorem mrg_mem : ∀ {f s h : List Int} {x : Int}, f.length = s.length → h.length = (frO f s).length → x ∈ h → x ∈ mrg f s h
  | [], [], h, x, _, l, m => by
    have : h = [] := by simpa [frO] using l
    rw [this] at m; cases m
  | [], _ :: _, _, _, e, _, _ => by simp at e
  | _ :: _, [], _, _, e, _, _ => by simp at e
  | a :: f, c :: s, h, x, e, l, m => by
    have e' : f.length = s.length := by simpa using e
    unfold mrg
    unfold frO at l
    by_cases q : a = c
    · rw [if_pos q] at l
      rw [if_pos q]
      match h, l, m with
      | y :: h, l, m =>
        rcases List.mem_cons.mp m with w | w
        · rw [w]; simp
        · exact List.mem_cons_of_mem _ (mrg_mem e' (by simpa using l) w)
    · rw [if_neg q] at l
      rw [if_neg q]
      exact List.mem_cons_of_mem _ (mrg_mem e' l m)
theorem nxt_fit (hl : f.length = s.length) (hf : Asg f v) (ha : Alc as v f.length) (hv : 0 ≤ v) (ok : ∀ i, 0 ≤ i ∧ i < v → gI (s0I v f as).l i ≤ (frO f s).count i) : Fit v (s0I v f as) f (nxtC v s f as) ∧ Clm f s (nxtC v s f as) := by
  have ff := first_fit (frS_st hf ha hv ok)
  exact ⟨(fit_mrg hl hf ff.len ff.rng).mpr ff, (mrg_clm hl ff.len).1⟩
theorem nxt_le (hl : f.length = s.length) (hf : Asg f v) (ha : Alc as v f.length) (hv : 0 ≤ v) (ok : ∀ i, 0 ≤ i ∧ i < v → gI (s0I v f as).l i ≤ (frO f s).count i) (fg : Fit v (s0I v f as) f g) (cg : Clm f s g) : lexLe (nxtC v s f as) g := by
  obtain ⟨h, lh, rfl⟩ := mrg_of cg
  have fh := (fit_mrg hl hf lh fun x hx => fg.rng x (mrg_mem hl lh hx)).mp fg
  exact mrg_le hl first_len lh (first_le (frS_st hf ha hv ok) fh)
/-- no calm change where a variant has too few fresh buckets -/
theorem clm_no {i : Int} (hi : 0 ≤ i ∧ i < v) (no : (frO f s).count i < gI (s0I v f as).l i) (fg : Fit v (s0I v f as) f g) (cg : Clm f s g) : False := by
  have := fr_step i cg
  rw [fg.out i hi] at this
  omega
/-- the calm changes among all assignments, in order -/
theorem calm_first (hl : f.length = s.length) (hf : Asg f v) (ha : Alc as v f.length) (hv : 0 ≤ v) (p : List Int → Bool) (hp : ∀ r ∈ asgN as f.length, p r = true ↔ zs ne1 f r = trI (countsI f v) as ∧ Clm f s r)
    (ok : ∀ i, 0 ≤ i ∧ i < v → gI (s0I v f as).l i ≤ (frO f s).count i) : ∃ rest, (asgN as f.length).filter p = nxtC v s f as :: rest ∧ ∀ r ∈ nxtC v s f as :: rest, lexLe (nxtC v s f as) r := by
  have mem : ∀ r, r ∈ (asgN as f.length).filter p → Lst v f as r ∧ Clm f s r := fun r hr => by
    obtain ⟨h1, h2⟩ := List.mem_filter.mp hr
    have := asgN_cnt (b := f.length) ha (by simpa using h1)
    obtain ⟨c1, c2⟩ := (hp r h1).mp h2
    exact ⟨⟨⟨by have := hf.len; omega, this.2.1⟩, by omega, this.2.2, c1⟩, c2⟩
  obtain ⟨nf, nc⟩ := nxt_fit hl hf ha hv ok
  have kl := (fit_lst hf ha hv).mp nf
  have inA : nxtC v s f as ∈ asgN as f.length := by
    have := asgN_of (b := f.length) ha (by rw [kl.len]) kl.asg.rng kl.cnt
    simpa using this
  have hF : nxtC v s f as ∈ (asgN as f.length).filter p := List.mem_filter.mpr ⟨inA, (hp _ inA).mpr ⟨kl.chn, nc⟩⟩
  have pw : ((asgN as f.length).filter p).Pairwise lexLt := (asgN_pw as f.length).sublist List.filter_sublist
  have least : ∀ r ∈ (asgN as f.length).filter p, lexLe (nxtC v s f as) r := fun r hr => by
    obtain ⟨a, b⟩ := mem r hr
    exact nxt_le hl hf ha hv ok ((fit_lst hf ha hv).mpr a) b
  generalize (asgN as f.length).filter p = L at hF pw least
  cases L with
  | nil => cases hF
  | cons r0 rest =>
    rcases List.mem_cons.mp hF with e | m
    · rw [e] at least ⊢
      exact ⟨rest, rfl, least⟩
    · exact (lexLt_no ((List.pairwise_cons.mp pw).1 _ m) (least r0 (by simp))).elim
theorem calm_none (hf : Asg f v) (ha : Alc as v f.length) (hv : 0 ≤ v) (p : List Int → Bool) (hp : ∀ r ∈ asgN as f.length, p r = true ↔ zs ne1 f r = trI (countsI f v) as ∧ Clm f s r) {i : Int} (hi : 0 ≤ i ∧ i < v) (no : (frO f s).count i < gI (s0I v f as).l i) : (asgN as f.length).filter p = [] := by
  refine List.filter_eq_nil_iff.mpr fun r hr hp' => ?_
  have := asgN_cnt (b := f.length) ha (by simpa using hr)
  obtain ⟨c1, c2⟩ := (hp r hr).mp hp'
  exact clm_no hi no ((fit_lst hf ha hv).mpr ⟨⟨by have := hf.len; omega, this.2.1⟩, by omega, this.2.2, c1⟩) c2
end Lm


/-! min of a list, max of a tuple, of any data that can be compared -/
namespace Lm
open PySem PySem.Spec PyProof.Rows L2
def rMinDL (K : PySem.W.Frag) : List V → Hp → VK → Prop := fun vs H Q => ∃ (a : Addr) (xs : List V) (d : PyData) (ds : List PyData), vs = [V.ref a] ∧ SqL K H a xs ∧ DpAll K H xs (d :: ds) ∧ PySem.W.AlikeAll (d :: ds) ∧ PyData.depthAll (d :: ds) ≤ 60 ∧
  ∀ q ∈ xs.zip (d :: ds), q.2 = PySem.W.minD d ds → Q q.1 H
def rMaxTU (K : PySem.W.Frag) : List V → Hp → VK → Prop := fun vs H Q => ∃ (a : Addr) (xs : List V) (d : PyData) (ds : List PyData), vs = [V.ref a] ∧ SqT K H a xs ∧ DpAll K H xs (d :: ds) ∧ PySem.W.AlikeAll (d :: ds) ∧ PyData.depthAll (d :: ds) ≤ 60 ∧
  ∀ q ∈ xs.zip (d :: ds), q.2 = PySem.W.maxD d ds → Q q.1 H
theorem dp_item {X : Cx} {pins : List (Addr × Obj)} {σ : L2.St} {H : Hp} {s : Shared} (I : Inv X pins σ H s) {xs : List V} {us : List Value} {ds : List PyData} {i : Nat} {u : Value} {m : PyData} {h' : Heap} {bs : List Addr} (hd : DpAll X.K H xs ds) (rv : Vals xs us) (hu : us[i]? = some u) (rm : Reads h' u m bs) (k : ∀ b o, s.heap.get? b = some o → h'.get? b = some o) : ∃ q ∈ xs.zip ds, q.2 = m ∧ RelV q.1 u := by
  have lx := dpAll_len hd
  have lu := rv.length
  have iu := (List.getElem?_eq_some_iff.mp hu).1
  obtain ⟨x, hx⟩ : ∃ x, xs[i]? = some x := ⟨_, List.getElem?_eq_getElem (by omega)⟩
  obtain ⟨u1, hu1, rx⟩ := rv.get hx
  rw [hu] at hu1
  cases Option.some.inj hu1
  obtain ⟨d, hdi⟩ : ∃ d, ds[i]? = some d := ⟨_, List.getElem?_eq_getElem (by omega)⟩
  obtain ⟨as, ra⟩ := Dp.readsAll I ds xs us hd rv
  obtain ⟨bs1, r1, _, _, _⟩ := PySem.W.readsAll_at ra i u hu
  rw [List.getD_eq_getElem?_getD, hdi, Option.getD_some] at r1
  have e := (Reads.unique (PySem.W.reads_keeps k r1) _ _ rm).1
  refine ⟨(x, d), ?_, e, rx⟩
  exact List.mem_of_getElem? (i := i) (List.getElem?_zip_eq_some (z := (x, d)).mpr ⟨hx, hdi⟩)
section
variable {X : Cx}
theorem cr_minDL (hc : X.calm = true) (hu : X.A.units + 64 < cLine) : CallR X (.builtin "min") (rMinDL X.K) := by
  intro pins s σ H vs us Q I r h
  obtain ⟨a, xs, d, ds, rfl, hs, hd, al, dp, q⟩ := h
  obtain ⟨its, rv, hl, hz⟩ := I.list hs
  rw [Vals.ref1 r]
  obtain ⟨as, ra⟩ := Dp.readsAll I _ _ its hd rv
  refine PySem.W.min_list_data (I.ok.hd hc) hl.isList (by simpa using ra) al (by omega) fun i v h' tk bs hv rm k => ?_
  obtain ⟨z, hz, e, rz⟩ := dp_item I hd rv (by simpa using hv) rm k
  exact ⟨z.1, H, I.kept k, rz, q z hz e⟩
theorem cr_maxTU (hc : X.calm = true) (hu : X.A.units + 64 < cLine) : CallR X (.builtin "max") (rMaxTU X.K) := by
  intro pins s σ H vs us Q I r h
  obtain ⟨a, xs, d, ds, rfl, hs, hd, al, dp, q⟩ := h
  obtain ⟨its, rv, hl, hz⟩ := I.tuple hs
  rw [Vals.ref1 r]
  obtain ⟨as, ra⟩ := Dp.readsAll I _ _ its hd rv
  refine PySem.W.max_tuple_data (I.ok.hd hc) (show s.heap.IsTuple a its.toArray from hl) (by simpa using ra) al (by omega) fun i v h' tk bs hv rm k => ?_
  obtain ⟨z, hz, e, rz⟩ := dp_item I hd rv (by simpa using hv) rm k
  exact ⟨z.1, H, I.kept k, rz, q z hz e⟩
theorem k_minDL {K : PySem.W.Frag} (hK : X.K = K) (hc : X.calm = true) (hu : X.A.units + 64 < cLine) : CallR X (.builtin "min") (rMinDL K) := hK ▸ cr_minDL hc hu
theorem k_maxTU {K : PySem.W.Frag} (hK : X.K = K) (hc : X.calm = true) (hu : X.A.units + 64 < cLine) : CallR X (.builtin "max") (rMaxTU K) := hK ▸ cr_maxTU hc hu
end
section
variable {c : Ct} {Γ : List (Option Rs)} {te : TE} {k : Kd}
theorem e_minDL {d m : PyData} {ds : List PyData} (h : Ev c te Γ k (.list (d :: ds))) (fl : flatAll (d :: ds) = true) (al : PySem.W.AlikeAll (d :: ds)) (dp : PyData.depthAll (d :: ds) ≤ 60) (em : PySem.W.minD d ds = m) : Ev c (tCB (rMinDL c.K) (tCons te tNil)) Γ .v m := fun H0 O H σ e Q q =>
  h H0 O H σ e _ fun v H1 r1 s1 => by
    obtain ⟨p, xs, rfl, _, sl, ab⟩ := (Res.bo e s1).lst'
    refine ⟨p, xs, d, ds, rfl, sl, ab.dp, al, dp, fun z hz ez => ?_⟩
    have bz := bo_mem ab z hz
    have fz : flatD z.2 = true := flatAll_one fl (List.of_mem_zip hz).2
    rw [ez, em] at bz fz
    exact q _ H1 r1 (Bo.flatM e r1 fz bz)
theorem e_maxTU {d m : PyData} {ds : List PyData} (h : Ev c te Γ k (.tuple (d :: ds))) (fl : flatAll (d :: ds) = true) (al : PySem.W.AlikeAll (d :: ds)) (dp : PyData.depthAll (d :: ds) ≤ 60) (em : PySem.W.maxD d ds = m) : Ev c (tCB (rMaxTU c.K) (tCons te tNil)) Γ .v m := fun H0 O H σ e Q q =>
  h H0 O H σ e _ fun v H1 r1 s1 => by
    obtain ⟨p, xs, rfl, sl, ab⟩ := (Res.bo e s1).tup'
    refine ⟨p, xs, d, ds, rfl, sl.sq, ab.dp, al, dp, fun z hz ez => ?_⟩
    have bz := bo_mem ab z hz
    have fz : flatD z.2 = true := flatAll_one fl (List.of_mem_zip hz).2
    rw [ez, em] at bz fz
    exact q _ H1 r1 (Bo.flatM e r1 fz bz)
/-- max of a tuple of ints -/
theorem e_maxTI {x : Int} {ns : List Int} (h : Ev c te Γ k (.tuple ((x :: ns).map .int))) : Ev c (tCB (rMaxTU c.K) (tCons te tNil)) Γ .v (.int (ns.foldl max x)) := by
  have dz : ∀ ms : List Int, PyData.depthAll (ms.map PyData.int) ≤ 1 := fun ms => by
    induction ms with
    | nil => exact Nat.zero_le _
    | cons m ms ih =>
      show max (PyData.depth (.int m)) _ ≤ 1
      exact Nat.max_le.mpr ⟨by simp [PyData.depth], ih⟩
  refine e_maxTU h (flatAll_ints (x :: ns)) ⟨fun a ha b hb => ?_, fun a ha => ?_⟩ (Nat.le_trans (dz (x :: ns)) (by decide)) (PySem.W.maxD_ints x ns)
  · obtain ⟨i, _, rfl⟩ := List.mem_map.mp (show a ∈ (x :: ns).map PyData.int from ha)
    obtain ⟨j, _, rfl⟩ := List.mem_map.mp (show b ∈ (x :: ns).map PyData.int from hb)
    rfl
  · obtain ⟨i, _, rfl⟩ := List.mem_map.mp (show a ∈ (x :: ns).map PyData.int from ha)
    exact PyData.noConfusion
end
/-- the first one is least -/
theorem minD_head {d : PyData} : ∀ {ds : List PyData}, (∀ e ∈ ds, PySem.W.dataLt e d = false) → PySem.W.minD d ds = d
  | [], _ => rfl
  | e :: ds, h => by
    have : PySem.W.minD d (e :: ds) = PySem.W.minD d ds := by
      unfold PySem.W.minD
      rw [List.foldl_cons, h e (by simp)]
      rfl
    rw [this]
    exact minD_head fun x hx => h x (by simp [hx])
end Lm


/-! calm histories, all of them, in order (k48) -/
namespace Lm
open PySem PySem.Spec PyProof.Rows L2
theorem clm_iff : ∀ {f s g : List Int}, Clm f s g ↔ f.length = s.length ∧ g.length = f.length ∧ ∀ i, i < f.length → f.getD i 0 = s.getD i 0 ∨ g.getD i 0 = f.getD i 0
  | [], [], [] => ⟨fun _ => ⟨rfl, rfl, fun i h => absurd h (Nat.not_lt_zero _)⟩, fun _ => trivial⟩
  | a :: f, c :: s, x :: g => by
    have ih := clm_iff (f := f) (s := s) (g := g)
    constructor
    · rintro ⟨h, t⟩
      obtain ⟨h1, h2, h3⟩ := ih.mp t
      refine ⟨by simp [h1], by simp [h2], fun i hi => ?_⟩
      cases i with
      | zero => exact h
      | succ i => exact h3 i (by simpa using hi)
    · rintro ⟨h1, h2, h3⟩
      refine ⟨h3 0 (by simp), ih.mpr ⟨by simpa using h1, by simpa using h2, fun i hi => h3 (i + 1) (by simpa using hi)⟩⟩
  | [], [], _ :: _ => ⟨fun h => h.elim, fun h => by simp at h⟩
  | [], _ :: _, [] => ⟨fun h => h.elim, fun h => by simp at h⟩
  | [], _ :: _, _ :: _ => ⟨fun h => h.elim, fun h => by simp at h⟩
  | _ :: _, [], [] => ⟨fun h => h.elim, fun h => by simp at h⟩
  | _ :: _, [], _ :: _ => ⟨fun h => h.elim, fun h => by simp at h⟩
  | _ :: _, _ :: _, [] => ⟨fun h => h.elim, fun h => by simp at h⟩
def mxT : List Int → Int
  | [] => 0
  | x :: ns => ns.foldl max x
theorem foldMax_lt {k : Int} : ∀ (ns : List Int) (x : Int), ns.foldl max x < k ↔ x < k ∧ ∀ y ∈ ns, y < k
  | [], x => by simp
  | n :: ns, x => by
    rw [List.foldl_cons, foldMax_lt ns (max x n)]
    simp only [List.mem_cons, forall_eq_or_imp]
    constructor
    · rintro ⟨a, b⟩
      exact ⟨by omega, by omega, b⟩
    · rintro ⟨a, b, c⟩
      exact ⟨by omega, c⟩
theorem mxT_lt {k : Int} {l : List Int} (h : l ≠ []) : mxT l < k ↔ ∀ y ∈ l, y < k := by
  cases l with
  | nil => exact absurd rfl h
  | cons x ns =>
    show ns.foldl max x < k ↔ _
    rw [foldMax_lt]
    simp
theorem prs_snoc {α : Type} {t : List α} {r d : α} (h : t ≠ []) : prs (t ++ [r]) = prs t ++ [(t.getD (t.length - 1) d, r)] := by
  induction t with
  | nil => exact absurd rfl h
  | cons a t ih =>
    cases t with
    | nil => rfl
    | cons b t =>
      show prs (a :: b :: (t ++ [r])) = prs (a :: b :: t) ++ _
      rw [prs_cons2, prs_cons2]
      have := ih (by simp)
      rw [show b :: (t ++ [r]) = b :: t ++ [r] from rfl, this]
      rfl
theorem los_app (a b : List (Int × Int)) : los (a ++ b) = los a + los b := by simp [los]
/-- one step more -/
theorem losC_take {A : List (List Int)} {k i : Nat} (hk : k + 1 < A.length) : losC (A.take (k + 2)) i = losC (A.take (k + 1)) i + neg0 ((A.getD k []).getD i 0, (A.getD (k + 1) []).getD i 0) := by
  have e : A.take (k + 2) = A.take (k + 1) ++ [A.getD (k + 1) []] := by
    rw [List.take_add_one, List.getElem?_eq_getElem hk, List.getD_eq_getElem?_getD, List.getElem?_eq_getElem hk]
    rfl
  unfold losC colI
  rw [e, List.map_append, List.map_singleton, prs_snoc (d := 0) (by intro z; have := congrArg List.length z; rw [List.length_map, List.length_take, List.length_nil] at this; omega), los_app]
  congr 1
  have l : (A.take (k + 1)).length = k + 1 := by rw [List.length_take]; omega
  rw [los_cons, show los [] = 0 from rfl, List.length_map, l]
  simp only [Nat.add_sub_cancel, Int.add_zero]
  congr 2
  rw [List.getD_eq_getElem?_getD, List.getElem?_map, List.getElem?_take, if_pos (by omega), List.getElem?_eq_getElem (by omega), List.getD_eq_getElem?_getD (l := A), List.getElem?_eq_getElem (by omega)]
  rfl
theorem losC_one {A : List (List Int)} {i : Nat} (h : 1 ≤ A.length) : losC (A.take 1) i = 0 := by
  match A, h with
  | a :: A, _ => rfl
theorem losC_mono {A : List (List Int)} {i : Nat} : ∀ (d k : Nat), k + 1 + d = A.length → losC (A.take (k + 1)) i ≤ losC A i
  | 0, k, h => by rw [List.take_of_length_le (by omega)]; exact Int.le_refl _
  | d + 1, k, h => by
    have := losC_mono (A := A) (i := i) d (k + 1) (by omega)
    have e := losC_take (A := A) (k := k) (i := i) (by omega)
    rw [show k + 1 + 1 = k + 2 from rfl] at this
    have := neg0_nn ((A.getD k []).getD i 0, (A.getD (k + 1) []).getD i 0)
    omega
/-- a calm table for the first k + 1 allocations -/
structure CalT (v b : Int) (s : List Int) (A : List (List Int)) (k : Nat) (t : List (List Int)) : Prop where
  len : t.length = k + 1
  row : ∀ r ∈ t, Asg r v ∧ (r.length : Int) = b
  cnt : countsI (t.getD k []) v = A.getD k []
  chn : ∀ i, i < b.toNat → (chgL t b.toNat).getD i 0 ≤ 1 ∧ ((chgL t b.toNat).getD i 0 = 0 ↔ (t.getD k []).getD i 0 = s.getD i 0)
  frs : ∀ i : Nat, i < v.toNat → ((frO (t.getD k []) s).count (i : Int) : Int) = (A.getD 0 []).getD i 0 - losC (A.take (k + 1)) i
/-- what the law asks of one more row -/
def calP (A : List (List Int)) (m k : Nat) (t : List (List Int)) (r : List Int) : Bool := decide (zs ne1 (t.getD k []) r = trI (A.getD k []) (A.getD (k + 1) [])) && decide (mxT (chgL (t ++ [r]) m ++ [0]) < 2)
def calR (A : List (List Int)) (b : Int) (s : List Int) : Nat → List (List (List Int))
  | 0 => [[s]]
  | k + 1 => (calR A b s k).flatMap fun t => ((asgN (A.getD (k + 1) []) b.toNat).filter (calP A b.toNat k t)).map fun r => t ++ [r]
variable {v b : Int} {s : List Int} {A : List (List Int)} {k : Nat} {t : List (List Int)} {r : List Int}
theorem chg_get {T : List (List Int)} {m i : Nat} (h : i < m) : (chgL T m).getD i 0 = (((prs T).countP fun p => !decide (p.1.getD i 0 = p.2.getD i 0) : Nat) : Int) := by
  unfold chgL
  rw [List.getD_eq_getElem?_getD, List.getElem?_map, List.getElem?_range h]
  rfl
theorem chg_snoc {m i : Nat} (h : i < m) (ht : t.length = k + 1) : (chgL (t ++ [r]) m).getD i 0 = (chgL t m).getD i 0 + if (t.getD k []).getD i 0 = r.getD i 0 then 0 else 1 := by
  rw [chg_get h, chg_get h, prs_snoc (d := []) (by intro e; rw [e] at ht; simp at ht), List.countP_append, List.countP_singleton, ht]
  simp only [Nat.add_sub_cancel]
  split
  · rename_i q
    have : ¬ (t.getD k []).getD i 0 = r.getD i 0 := by simpa using q
    rw [if_neg this]; omega
  · rename_i q
    have : (t.getD k []).getD i 0 = r.getD i 0 := by simpa using q
    rw [if_pos this]; omega
theorem calP_iff (hs : (s.length : Int) = b) (h : CalT v b s A k t) (hr : (r.length : Int) = b) : calP A b.toNat k t r = true ↔ zs ne1 (t.getD k []) r = trI (countsI (t.getD k []) v) (A.getD (k + 1) []) ∧ Clm (t.getD k []) s r := by
  have fm : t.getD k [] ∈ t := gL_mem (by have := h.len; omega)
  have fl := (h.row _ fm).2
  unfold calP
  rw [Bool.and_eq_true, decide_eq_true_eq, decide_eq_true_eq, h.cnt, mxT_lt (by simp), clm_iff]
  refine and_congr_right fun _ => ?_
  constructor
  · intro q
    refine ⟨by omega, by omega, fun i hi => ?_⟩
    have hi' : i < b.toNat := by omega
    have := q ((chgL (t ++ [r]) b.toNat).getD i 0) (List.mem_append_left _ (gd_mem (by simp [chgL]; omega)))
    rw [chg_snoc hi' h.len] at this
    obtain ⟨c1, c2⟩ := h.chn i hi'
    have nn : 0 ≤ (chgL t b.toNat).getD i 0 := by rw [chg_get hi']; omega
    by_cases e : (t.getD k []).getD i 0 = r.getD i 0
    · exact .inr e.symm
    · rw [if_neg e] at this
      exact .inl (c2.mp (by omega))
  · rintro ⟨_, _, q⟩ y hy
    rcases List.mem_append.mp hy with w | w
    · obtain ⟨i, hi, rfl⟩ := List.getElem_of_mem w
      have hi' : i < b.toNat := by simpa [chgL] using hi
      have e : (chgL (t ++ [r]) b.toNat)[i] = (chgL (t ++ [r]) b.toNat).getD i 0 := by rw [List.getD_eq_getElem?_getD, List.getElem?_eq_getElem hi]; rfl
      rw [e, chg_snoc hi' h.len]
      obtain ⟨c1, c2⟩ := h.chn i hi'
      split
      · omega
      · rename_i ne
        rcases q i (by omega) with u | u
        · have := c2.mpr u; omega
        · exact absurd u.symm ne
    · have := List.mem_singleton.mp w
      omega
theorem los_lv {f as : List Int} {i : Nat} (hv : 0 ≤ v) (hi : i < v.toNat) (l : ((countsI f v).length : Int) = v) (la : (as.length : Int) = v) : gI (s0I v f as).l (i : Int) = neg0 ((countsI f v).getD i 0, as.getD i 0) := by
  unfold gI s0I
  rw [show ((i : Int)).toNat = i by omega]
  show (lvI (countsI f v) as).getD i 0 = _
  rw [lv_get (by omega) (by omega)]
  rfl
theorem calT_step (hA : Ser A v b) (hk : k + 1 < A.length) (hs : (s.length : Int) = b) (h : CalT v b s A k t) (hr : r ∈ asgN (A.getD (k + 1) []) b.toNat) (p : calP A b.toNat k t r = true) : CalT v b s A (k + 1) (t ++ [r]) := by
  have v1 := hA.v1
  have a1 := hA.at (i := k + 1) (by omega)
  have fm : t.getD k [] ∈ t := gL_mem (by have := h.len; omega)
  obtain ⟨fa, fl⟩ := h.row _ fm
  obtain ⟨r1, r2, r3⟩ := asgN_cnt a1 hr
  have hf : Alc (A.getD (k + 1) []) v (t.getD k []).length := ⟨a1.len, by rw [a1.sum, fl], a1.nn⟩
  obtain ⟨c1, c2⟩ := (calP_iff hs h r1).mp p
  have e : (t ++ [r]).getD (k + 1) [] = r := by rw [List.getD_eq_getElem?_getD, List.getElem?_append_right (by have := h.len; omega), h.len]; simp
  have fit := (fit_lst fa hf (by omega)).mpr ⟨⟨by have := hA.b20; omega, r2⟩, by omega, r3, c1⟩
  refine ⟨by simp [h.len], fun x hx => ?_, by rw [e]; exact r3, fun i hi => ?_, fun i hi => ?_⟩
  · rcases List.mem_append.mp hx with w | w
    · exact h.row x w
    · rw [List.mem_singleton.mp w]
      exact ⟨⟨by have := hA.b20; omega, r2⟩, r1⟩
  · rw [e, chg_snoc hi h.len]
    obtain ⟨d1, d2⟩ := h.chn i hi
    have nn : 0 ≤ (chgL t b.toNat).getD i 0 := by rw [chg_get hi]; omega
    have := (clm_iff.mp c2).2.2 i (by omega)
    split
    · rename_i q
      rw [← q]
      exact ⟨by omega, by rw [Int.add_zero]; exact d2⟩
    · rename_i q
      have f0 := this.resolve_right (fun w => q w.symm)
      have := d2.mpr f0
      exact ⟨by omega, ⟨fun w => by omega, fun w => absurd (f0.trans w.symm) q⟩⟩
  · rw [e, losC_take hk]
    have st := fr_step (i : Int) c2
    have := fit.out i (by omega)
    rw [los_lv (by omega) hi (by rw [h.cnt]; exact (hA.at (i := k) (by omega)).len) a1.len, h.cnt] at this
    have := h.frs i hi
    omega
theorem calR_ok (hA : Ser A v b) (hs : Asg s v) (ls : (s.length : Int) = b) (cs : countsI s v = A.getD 0 []) : ∀ k, k < A.length → ∀ t ∈ calR A b s k, CalT v b s A k t
  | 0, hk, t, ht => by
    have := List.mem_singleton.mp ht
    subst this
    refine ⟨rfl, fun r hr => by rw [List.mem_singleton.mp hr]; exact ⟨hs, ls⟩, cs, fun i hi => ?_, fun i hi => ?_⟩
    · rw [chg_get hi]
      exact ⟨by simp [prs], by simp [prs]⟩
    · rw [losC_one (by omega), ← cs, countsI_get (by omega)]
      show ((frO s s).count (i : Int) : Int) = _
      rw [fr_self]
      omega
  | k + 1, hk, t, ht => by
    obtain ⟨t0, h0, hm⟩ := List.mem_flatMap.mp ht
    obtain ⟨r, hr, rfl⟩ := List.mem_map.mp hm
    obtain ⟨r1, r2⟩ := List.mem_filter.mp hr
    exact calT_step hA hk ls (calR_ok hA hs ls cs k (by omega) t0 h0) r1 r2
/-- the rows of the first calm history -/
def rowC (v : Int) (A : List (List Int)) (s : List Int) : Nat → List Int
  | 0 => s
  | n + 1 => nxtC v s (rowC v A s n) (A.getD (n + 1) [])
def hisC (v : Int) (A : List (List Int)) (s : List Int) (k : Nat) : List (List Int) := (List.range (k + 1)).map (rowC v A s)
/-- tables in order -/
def TLe : List (List Int) → List (List Int) → Prop
  | [], [] => True
  | a :: h, b :: t => (a.length = b.length ∧ lexLe a b ∧ a ≠ b) ∨ (a = b ∧ TLe h t)
  | _, _ => False
theorem TLe.app {x y : List Int} : ∀ {h t : List (List Int)}, TLe h t → h.length = t.length → (h = t → TLe [x] [y]) → TLe (h ++ [x]) (t ++ [y])
  | [], [], _, _, e => e rfl
  | a :: h, b :: t, w, l, e => by
    rcases w with w | ⟨rfl, w⟩
    · exact .inl w
    · exact .inr ⟨rfl, TLe.app w (by simpa using l) fun q => e (by rw [q])⟩
  | [], _ :: _, w, _, _ => w.elim
  | _ :: _, [], w, _, _ => w.elim
theorem calR_head (hA : Ser A v b) (hs : Asg s v) (ls : (s.length : Int) = b) (cs : countsI s v = A.getD 0 []) : ∀ k, k < A.length → (∀ i : Nat, i < v.toNat → losC (A.take (k + 1)) i ≤ (A.getD 0 []).getD i 0) → (∃ rest, calR A b s k = hisC v A s k :: rest) ∧ ∀ t ∈ calR A b s k, TLe (hisC v A s k) t
  | 0, hk, ok => ⟨⟨[], rfl⟩, fun t ht => by
    have := List.mem_singleton.mp ht
    subst this
    exact .inr ⟨rfl, trivial⟩⟩
  | k + 1, hk, ok => by
    have v1 := hA.v1
    have okk : ∀ i : Nat, i < v.toNat → losC (A.take (k + 1)) i ≤ (A.getD 0 []).getD i 0 := fun i hi => by
      have := ok i hi
      rw [losC_take hk] at this
      have := neg0_nn ((A.getD k []).getD i 0, (A.getD (k + 1) []).getD i 0)
      omega
    obtain ⟨⟨rest, e⟩, le⟩ := calR_head hA hs ls cs k (by omega) okk
    have a1 := hA.at (i := k + 1) (by omega)
    have hH := calR_ok hA hs ls cs k (by omega) (hisC v A s k) (by rw [e]; simp)
    have lastH : (hisC v A s k).getD k [] = rowC v A s k := by simp [hisC, List.getD_eq_getElem?_getD]
    obtain ⟨fa, fl⟩ := hH.row _ (gL_mem (i := k) (by have := hH.len; omega))
    rw [lastH] at fa fl
    have hf : Alc (A.getD (k + 1) []) v (rowC v A s k).length := ⟨a1.len, by rw [a1.sum, fl], a1.nn⟩
    have bl : b.toNat = (rowC v A s k).length := by omega
    have iff : ∀ t ∈ calR A b s k, ∀ r ∈ asgN (A.getD (k + 1) []) b.toNat, calP A b.toNat k t r = true ↔ zs ne1 (t.getD k []) r = trI (countsI (t.getD k []) v) (A.getD (k + 1) []) ∧ Clm (t.getD k []) s r := fun t ht r hr => calP_iff ls (calR_ok hA hs ls cs k (by omega) t ht) (asgN_cnt a1 hr).1
    obtain ⟨rest2, e2, le2⟩ := calm_first (s := s) (by omega) fa hf (by omega) (calP A b.toNat k (hisC v A s k)) (fun r hr => by
      have := iff (hisC v A s k) (by rw [e]; simp) r (by rw [bl]; exact hr)
      rw [lastH] at this
      exact this) (fun i hi => by
      have := hH.frs i.toNat (by omega)
      rw [lastH, show ((i.toNat : Nat) : Int) = i by omega] at this
      have o := ok i.toNat (by omega)
      rw [losC_take hk] at o
      have := los_lv (v := v) (f := rowC v A s k) (as := A.getD (k + 1) []) (i := i.toNat) (by omega) (by omega) (by rw [← lastH, hH.cnt]; exact (hA.at (i := k) (by omega)).len) a1.len
      rw [show ((i.toNat : Nat) : Int) = i by omega] at this
      rw [this, ← lastH, hH.cnt, lastH]
      omega)
    rw [← bl] at e2
    have eh : hisC v A s (k + 1) = hisC v A s k ++ [nxtC v s (rowC v A s k) (A.getD (k + 1) [])] := by
      unfold hisC
      rw [List.range_succ (n := k + 1), List.map_append]
      rfl
    refine ⟨⟨rest2.map (fun r => hisC v A s k ++ [r]) ++ rest.flatMap fun t => ((asgN (A.getD (k + 1) []) b.toNat).filter (calP A b.toNat k t)).map fun r => t ++ [r], ?_⟩, fun t ht => ?_⟩
    · show (calR A b s k).flatMap _ = _
      rw [e, List.flatMap_cons, e2, List.map_cons, eh]
      rfl
    · obtain ⟨t0, h0, hm⟩ := List.mem_flatMap.mp ht
      obtain ⟨r, hr, rfl⟩ := List.mem_map.mp hm
      rw [eh]
      have l0 := (calR_ok hA hs ls cs k (by omega) t0 h0).len
      refine TLe.app (le t0 h0) (by rw [l0, hH.len]) fun q => ?_
      subst q
      rw [e2] at hr
      have lr := le2 r hr
      obtain ⟨r1, _⟩ := List.mem_filter.mp (e2.symm ▸ hr : r ∈ (asgN (A.getD (k + 1) []) b.toNat).filter (calP A b.toNat k (hisC v A s k)))
      obtain ⟨n1, _⟩ := List.mem_filter.mp (e2.symm ▸ List.mem_cons_self : nxtC v s (rowC v A s k) (A.getD (k + 1) []) ∈ (asgN (A.getD (k + 1) []) b.toNat).filter (calP A b.toNat k (hisC v A s k)))
      have l1 := (asgN_cnt a1 r1).1
      have l2 := (asgN_cnt a1 n1).1
      by_cases q : nxtC v s (rowC v A s k) (A.getD (k + 1) []) = r
      · exact .inr ⟨q, trivial⟩
      · exact .inl ⟨by omega, lr, q⟩
theorem calR_nil (hA : Ser A v b) (hs : Asg s v) (ls : (s.length : Int) = b) (cs : countsI s v = A.getD 0 []) (hk : k + 1 < A.length) {i : Nat} (hi : i < v.toNat) (no : (A.getD 0 []).getD i 0 < losC (A.take (k + 2)) i) : calR A b s (k + 1) = [] := by
  have v1 := hA.v1
  have a1 := hA.at (i := k + 1) (by omega)
  show (calR A b s k).flatMap _ = []
  refine List.flatMap_eq_nil_iff.mpr fun t ht => ?_
  have h := calR_ok hA hs ls cs k (by omega) t ht
  obtain ⟨fa, fl⟩ := h.row _ (gL_mem (i := k) (by have := h.len; omega))
  have hf : Alc (A.getD (k + 1) []) v (t.getD k []).length := ⟨a1.len, by rw [a1.sum, fl], a1.nn⟩
  have bl : b.toNat = (t.getD k []).length := by omega
  rw [bl, calm_none (s := s) (i := (i : Int)) fa hf (by omega) (calP A (t.getD k []).length k t) (fun r hr => by
    rw [← bl] at hr ⊢
    exact calP_iff ls h (asgN_cnt a1 hr).1) (by omega) (by
    rw [los_lv (by omega) hi (by rw [h.cnt]; exact (hA.at (i := k) (by omega)).len) a1.len, h.cnt, h.frs i hi]
    rw [losC_take hk] at no
    omega)]
  rfl
/-- the first calm history, or none -/
theorem calm_is (hA : Ser A v b) (hs : Asg s v) (ls : (s.length : Int) = b) (cs : countsI s v = A.getD 0 []) :
    (ovr A v.toNat = none ∧ (∃ rest, calR A b s (A.length - 1) = hisC v A s (A.length - 1) :: rest) ∧ ∀ t ∈ calR A b s (A.length - 1), TLe (hisC v A s (A.length - 1)) t) ∨ (ovr A v.toNat ≠ none ∧ calR A b s (A.length - 1) = []) := by
  have l1 := hA.l1
  cases q : ovr A v.toNat with
  | none =>
    refine .inl ⟨rfl, calR_head hA hs ls cs _ (by omega) fun i hi => ?_⟩
    unfold ovr at q
    have := List.find?_eq_none.mp q i (List.mem_range.mpr hi)
    have := losC_mono (A := A) (i := i) 0 (A.length - 1) (by omega)
    simp at *
    omega
  | some i =>
    refine .inr ⟨by simp, ?_⟩
    unfold ovr at q
    have hi := List.mem_range.mp (List.mem_of_find?_eq_some q)
    have no := List.find?_some q
    have no := of_decide_eq_true no
    have l2 : 2 ≤ A.length := by
      refine Nat.le_of_not_lt fun h => ?_
      have e : A.length = 1 := by omega
      have := losC_one (A := A) (i := i) (by omega)
      rw [List.take_of_length_le (by omega)] at this
      have a0 := hA.at (i := 0) (by omega)
      have := a0.nn ((A.getD 0 []).getD i 0) (gd_mem (by have := a0.len; omega))
      omega
    have e : A.length - 1 = (A.length - 2) + 1 := by omega
    rw [e]
    exact calR_nil hA hs ls cs (by omega) hi (by rw [List.take_of_length_le (by omega)]; exact no)
end Lm


/-! calm histories: sizes, promises (k48) -/
namespace Lm
open PySem PySem.Spec PyProof.Rows L2
theorem countP_pos : ∀ {l : List Int}, (∀ n ∈ l, 0 ≤ n) → ((l.countP fun z => decide (0 < z) : Nat) : Int) ≤ l.sum
  | [], _ => by simp
  | a :: l, h => by
    have ih := countP_pos (l := l) fun n hn => h n (by simp [hn])
    have := h a (by simp)
    rw [List.countP_cons, List.sum_cons]
    split
    · rename_i q; have := of_decide_eq_true q; omega
    · omega
theorem nxtA_len {as r : List Int} {b : Int} (nn : ∀ n ∈ as, 0 ≤ n) (hs : as.sum = b) : (nxtA as r).length ≤ b.toNat := by
  have e : (upI 0 as.length).map (gI as) = as := by
    refine List.ext_getElem (by simp [upI]) fun i h1 h2 => ?_
    simp [upI, gI, List.getD_eq_getElem?_getD, List.getElem?_eq_getElem h2]
  have h1 : (nxtA as r).length ≤ ((upI 0 as.length).filter fun x => decide (0 < gI as x)).length := by
    unfold nxtA
    rw [← List.countP_eq_length_filter, ← List.countP_eq_length_filter]
    refine List.countP_mono_left fun x _ h => ?_
    have := of_decide_eq_true h
    exact decide_eq_true (by omega)
  have h2 : ((upI 0 as.length).filter fun x => decide (0 < gI as x)).length = as.countP fun z => decide (0 < z) := by
    conv => rhs; rw [← e]
    rw [List.countP_map, List.countP_eq_length_filter]
    rfl
  have := countP_pos nn
  omega
theorem flatMap_len {α β : Type} {f : α → List β} {m : Nat} : ∀ {l : List α}, (∀ a ∈ l, (f a).length ≤ m) → (l.flatMap f).length ≤ l.length * m
  | [], _ => by simp
  | a :: l, h => by
    have := flatMap_len (l := l) fun x hx => h x (by simp [hx])
    have := h a (by simp)
    rw [List.flatMap_cons, List.length_append, List.length_cons, Nat.add_mul]
    omega
theorem asgN_pow {as : List Int} {b : Int} (nn : ∀ n ∈ as, 0 ≤ n) (hs : as.sum = b) : ∀ n, (asgN as n).length ≤ b.toNat ^ n
  | 0 => Nat.le_refl _
  | n + 1 => by
    have ih := asgN_pow nn hs n
    unfold asgN
    refine Nat.le_trans (flatMap_len (m := b.toNat) fun r _ => by rw [List.length_map]; exact nxtA_len nn hs) ?_
    rw [Nat.pow_succ]
    exact Nat.mul_le_mul_right _ ih
variable {v b : Int} {s : List Int} {A : List (List Int)} {k : Nat} {t : List (List Int)} {r : List Int}
theorem calR_len (hA : Ser A v b) : ∀ k, k < A.length → (calR A b s k).length ≤ (b.toNat ^ b.toNat) ^ k
  | 0, _ => Nat.le_refl _
  | k + 1, hk => by
    have ih := calR_len hA k (by omega)
    have a1 := hA.at (i := k + 1) (by omega)
    show ((calR A b s k).flatMap _).length ≤ _
    refine Nat.le_trans (flatMap_len (m := b.toNat ^ b.toNat) fun t _ => ?_) ?_
    · rw [List.length_map]
      exact Nat.le_trans (List.length_filter_le _ _) (asgN_pow a1.nn a1.sum _)
    · rw [Nat.pow_succ]
      exact Nat.mul_le_mul_right _ ih
/-- no more tables than may be kept in a list -/
structure SmC (A : List (List Int)) (v b : Int) : Prop where
  ser : Ser A v b
  v4 : v ≤ 4
  b4 : b ≤ 4
  l6 : A.length ≤ 6
  big : ∀ k, k < A.length → (b.toNat ^ b.toNat) ^ k ≤ 65536
theorem smC_of (h : Ser A v b) (v4 : v ≤ 4) {B M : Nat} (hb : b = (B : Int)) (l : A.length ≤ M) (ok : B ≤ 4 ∧ M ≤ 6 ∧ ∀ k, k < M → (B ^ B) ^ k ≤ 65536) : SmC A v b := by
  subst hb
  exact ⟨h, v4, by omega, by omega, fun k hk => by rw [Int.toNat_natCast]; exact ok.2.2 k (by omega)⟩
theorem lexLe_lt : ∀ {a b : List Int}, lexLe a b → ¬ b < a
  | [], b, _ => List.not_lt_nil b
  | a :: as, [], h => h.elim
  | a :: as, b :: bs, h => by
    rw [List.cons_lt_cons_iff]
    rcases h with h | ⟨rfl, h⟩
    · rintro (w | ⟨w, _⟩) <;> omega
    · rintro (w | ⟨_, w⟩)
      · omega
      · exact lexLe_lt h w
theorem tle_lt : ∀ {h t : List (List Int)}, TLe h t → PySem.W.dataLt (tblD t) (tblD h) = false := by
  have key : ∀ {h t : List (List Int)}, TLe h t → PyProof.Rows.lexLt itemOrd (PySem.W.keyToksAll (t.map tupD)) (PySem.W.keyToksAll (h.map tupD)) = false := by
    intro h
    induction h with
    | nil =>
      intro t w
      cases t with
      | nil => rfl
      | cons b t => exact w.elim
    | cons a h ih =>
      intro t w
      cases t with
      | nil => exact w.elim
      | cons b t =>
        rw [List.map_cons, List.map_cons, PySem.W.dataLt_cons (alike_rows _ _)]
        rcases w with ⟨l, le, ne⟩ | ⟨rfl, w⟩
        · rw [if_neg (fun q => ne (tupD_inj ((eqv_pl (pl_tup _) (pl_tup _)).mp q)).symm), dataLt_rows]
          exact decide_eq_false (lexLe_lt le)
        · rw [if_pos (eqv_rf (pl_tup _))]
          exact ih w
  intro h t w
  unfold tblD
  rw [PySem.W.dataLt_tuple]
  exact key w
theorem depthAll_le {m : Nat} : ∀ {ds : List PyData}, (∀ d ∈ ds, d.depth ≤ m) → PyData.depthAll ds ≤ m
  | [], _ => Nat.zero_le _
  | d :: ds, h => by
    show max d.depth (PyData.depthAll ds) ≤ m
    exact Nat.max_le.mpr ⟨h d (by simp), depthAll_le fun e he => h e (by simp [he])⟩
theorem depth_int (i : Int) : (PyData.int i).depth ≤ 1 := by simp [PyData.depth]
theorem depth_tup {m : Nat} {ds : List PyData} (h : ∀ d ∈ ds, d.depth ≤ m) : (PyData.tuple ds).depth ≤ m + 1 := by
  have := depthAll_le h
  simp only [PyData.depth]
  omega
theorem depth_tupD (r : List Int) : (tupD r).depth ≤ 2 := depth_tup fun d hd => by
  obtain ⟨i, _, rfl⟩ := List.mem_map.mp hd
  exact depth_int i
theorem depth_tblD (t : List (List Int)) : (tblD t).depth ≤ 3 := depth_tup fun d hd => by
  obtain ⟨i, _, rfl⟩ := List.mem_map.mp hd
  exact depth_tupD i
theorem depth_tbls (T : List (List (List Int))) : PyData.depthAll (T.map tblD) ≤ 60 := Nat.le_trans (depthAll_le (m := 3) fun d hd => by
  obtain ⟨i, _, rfl⟩ := List.mem_map.mp hd
  exact depth_tblD i) (by decide)
theorem alike_tbl : ∀ (t h : List (List Int)), PySem.W.alike (tblD t) (tblD h) = true := by
  have key : ∀ (t h : List (List Int)), PySem.W.alikeAll (t.map tupD) (h.map tupD) = true := by
    intro t
    induction t with
    | nil => intro h; cases h <;> rfl
    | cons a t ih =>
      intro h
      cases h with
      | nil => rfl
      | cons b h =>
        show (PySem.W.alike (tupD a) (tupD b) && PySem.W.alikeAll (t.map tupD) (h.map tupD)) = true
        rw [alike_rows, ih h]
        rfl
  intro t h
  unfold tblD PySem.W.alike
  exact key t h
theorem alike_tbls (T : List (List (List Int))) : PySem.W.AlikeAll (T.map tblD) := ⟨fun x hx y hy => by
  obtain ⟨i, _, rfl⟩ := List.mem_map.mp hx
  obtain ⟨j, _, rfl⟩ := List.mem_map.mp hy
  exact alike_tbl i j, fun x hx => by
  obtain ⟨i, _, rfl⟩ := List.mem_map.mp hx
  exact PyData.noConfusion⟩
/-- the places that are still fresh -/
def frN : Nat → List Int → List Int → List Nat
  | k, a :: f, c :: s => if a = c then k :: frN (k + 1) f s else frN (k + 1) f s
  | _, _, _ => []
theorem frN_is : ∀ {f s : List Int} (k : Nat), f.length = s.length → frN k f s = ((List.range f.length).filter fun i => decide (f.getD i 0 = s.getD i 0)).map (· + k)
  | [], _, k, _ => rfl
  | _ :: _, [], _, h => by simp at h
  | a :: f, c :: s, k, h => by
    have ih := frN_is (f := f) (s := s) (k + 1) (by simpa using h)
    unfold frN
    rw [List.length_cons, List.range_succ_eq_map, ih]
    have e : (List.map Nat.succ (List.range f.length)).filter (fun i => decide ((a :: f).getD i 0 = (c :: s).getD i 0)) = ((List.range f.length).filter fun i => decide (f.getD i 0 = s.getD i 0)).map Nat.succ := by
      rw [List.filter_map]
      rfl
    by_cases q : a = c
    · rw [if_pos q, List.filter_cons_of_pos (by simpa using q), e, List.map_cons, List.map_map]
      simp only [Nat.zero_add, List.cons.injEq, true_and]
      refine List.map_congr_left fun i _ => ?_
      simp only [Function.comp]
      omega
    · rw [if_neg q, List.filter_cons_of_neg (by simpa using q), e, List.map_map]
      refine List.map_congr_left fun i _ => ?_
      simp only [Function.comp]
      omega
theorem frN_olds : ∀ {f s : List Int} (pre : List Int), (frN pre.length f s).map (fun i => (pre ++ f).getD i 0) = frO f s
  | [], _, _ => rfl
  | _ :: _, [], _ => rfl
  | a :: f, c :: s, pre => by
    have ih := frN_olds (f := f) (s := s) (pre ++ [a])
    rw [List.length_append, List.append_assoc] at ih
    unfold frN frO
    by_cases q : a = c
    · rw [if_pos q, if_pos q, List.map_cons]
      congr 1
      simp [List.getD_eq_getElem?_getD]
    · rw [if_neg q, if_neg q]
      exact ih
theorem frN_mrg : ∀ {f s h : List Int} (pre : List Int), f.length = s.length → h.length = (frO f s).length → ((frN pre.length f s).zip h).foldl (fun (l : List Int) p => l.set p.1 p.2) (pre ++ f) = pre ++ mrg f s h
  | [], [], h, pre, _, _ => by simp [frN, mrg]
  | [], _ :: _, _, _, e, _ => by simp at e
  | _ :: _, [], _, _, e, _ => by simp at e
  | a :: f, c :: s, h, pre, e, l => by
    have e' : f.length = s.length := by simpa using e
    unfold frN mrg
    unfold frO at l
    by_cases q : a = c
    · rw [if_pos q] at l
      rw [if_pos q, if_pos q]
      match h, l with
      | y :: h, l =>
        have ih := frN_mrg (f := f) (s := s) (h := h) (pre ++ [y]) e' (by simpa using l)
        rw [List.length_append, List.append_assoc] at ih
        rw [List.zip_cons_cons, List.foldl_cons]
        have : (pre ++ a :: f).set pre.length y = pre ++ ([y] ++ f) := by simp
        show ((frN (pre.length + 1) f s).zip h).foldl _ ((pre ++ a :: f).set pre.length y) = _
        rw [this]
        refine ih.trans ?_
        simp
    · rw [if_neg q] at l
      rw [if_neg q, if_neg q]
      have ih := frN_mrg (f := f) (s := s) (h := h) (pre ++ [a]) e' l
      rw [List.length_append, List.append_assoc] at ih
      refine ih.trans ?_
      simp
theorem frN_lt : ∀ {f s : List Int} {k i : Nat}, i ∈ frN k f s → i < k + f.length
  | [], _, _, _, h => by simp [frN] at h
  | _ :: _, [], _, _, h => by simp [frN] at h
  | a :: f, c :: s, k, i, h => by
    have ih : i ∈ frN (k + 1) f s → i < k + (a :: f).length := fun w => by have := frN_lt w; simp; omega
    unfold frN at h
    split at h
    · rcases List.mem_cons.mp h with w | w
      · rw [w]; simp
      · exact ih w
    · exact ih h
theorem frN_len : ∀ {f s : List Int} {k : Nat}, (frN k f s).length = (frO f s).length
  | [], _, _ => rfl
  | _ :: _, [], _ => rfl
  | a :: f, c :: s, k => by
    have ih := frN_len (f := f) (s := s) (k := k + 1)
    unfold frN frO
    split <;> simp [ih]
/-- the row before can go on -/
theorem rowC_ok (hA : Ser A v b) (hs : Asg s v) (ls : (s.length : Int) = b) (cs : countsI s v = A.getD 0 []) (no : ovr A v.toNat = none) {n : Nat} (hn : n < A.length) : (Asg (rowC v A s n) v ∧ ((rowC v A s n).length : Int) = b ∧ countsI (rowC v A s n) v = A.getD n []) ∧ (n + 1 < A.length → ∀ i, 0 ≤ i ∧ i < v → gI (s0I v (rowC v A s n) (A.getD (n + 1) [])).l i ≤ (frO (rowC v A s n) s).count i) := by
  have v1 := hA.v1
  have ok : ∀ k, k < A.length → ∀ i : Nat, i < v.toNat → losC (A.take (k + 1)) i ≤ (A.getD 0 []).getD i 0 := fun k hk i hi => by
    unfold ovr at no
    have := List.find?_eq_none.mp no i (List.mem_range.mpr hi)
    have := losC_mono (A := A) (i := i) (A.length - 1 - k) k (by omega)
    simp at *
    omega
  obtain ⟨⟨rest, e⟩, _⟩ := calR_head hA hs ls cs n hn (ok n hn)
  have hH := calR_ok hA hs ls cs n hn (hisC v A s n) (by rw [e]; simp)
  have lastH : (hisC v A s n).getD n [] = rowC v A s n := by simp [hisC, List.getD_eq_getElem?_getD]
  obtain ⟨fa, fl⟩ := hH.row _ (gL_mem (i := n) (by have := hH.len; omega))
  rw [lastH] at fa fl
  have cn := hH.cnt
  rw [lastH] at cn
  refine ⟨⟨fa, fl, cn⟩, fun hn1 i hi => ?_⟩
  have a1 := hA.at (i := n + 1) (by omega)
  have := hH.frs i.toNat (by omega)
  rw [lastH, show ((i.toNat : Nat) : Int) = i by omega] at this
  have o := ok (n + 1) hn1 i.toNat (by omega)
  rw [losC_take hn1] at o
  have := los_lv (v := v) (f := rowC v A s n) (as := A.getD (n + 1) []) (i := i.toNat) (by omega) (by omega) (by rw [cn]; exact (hA.at (i := n) (by omega)).len) a1.len
  rw [show ((i.toNat : Nat) : Int) = i by omega] at this
  rw [this, cn]
  omega
def sp__law_small_series48 (K : PySem.W.Frag) : Sp := spS K fun ds k Q => ds = [] ∧ k = .v ∧ Q = fun d => ∃ A v b, d = .tuple (A.map tupD) ∧ SmC A v b
def sp_calm_change (K : PySem.W.Frag) : Sp := spD K fun ds k d => ∃ (as s f : List Int) (v : Int), ds = [.tuple (as.map .int), .tuple (s.map .int), .tuple (f.map .int)] ∧ Asg f v ∧ Alc as v f.length ∧ f.length = s.length ∧ 1 ≤ v ∧ v ≤ 5 ∧ (∀ i, 0 ≤ i ∧ i < v → gI (s0I v f as).l i ≤ (frO f s).count i) ∧ k = .v ∧ d = .tuple ((nxtC v s f as).map .int)
/-- the start of all histories -/
def stA (v : Int) (A : List (List Int)) : List Int := runL (A.getD 0 []) (upI 0 v.toNat)
def calmD (v : Int) (A : List (List Int)) : PyData := if ovr A v.toNat = none then tblD (hisC v A (stA v A) (A.length - 1)) else .none
def sp_calm_history (K : PySem.W.Frag) : Sp := spD K fun ds k d => ∃ A v b, ds = [.tuple (A.map tupD)] ∧ Ser A v b ∧ k = .v ∧ d = calmD v A
theorem stA_ok (hA : Ser A v b) : Asg (stA v A) v ∧ ((stA v A).length : Int) = b ∧ countsI (stA v A) v = A.getD 0 [] := by
  have := row_ok hA (n := 0) hA.l1
  exact this
end Lm


/-! the program's own text, by places -/
namespace W
open PySem PySem.Spec PyProof.Rows L2 Lm
def topS (i : Nat) : Stmt := PySem.Challenge.pw_leastmoved_k48_whole_calm_histories.main.body.getD i (.Pass ⟨0, 0, 0, 0⟩)
abbrev s_is_integer : Stmt := topS 6
abbrev n_is_integer : List Str := ["value", "least", "greatest"]
abbrev p_is_integer : List Str := ["value", "least", "greatest"]
theorem sc_is_integer : FnScope n_is_integer p_is_integer (defScope s_is_integer) := ⟨rfl, rfl, rfl, by decide +kernel, rfl, by decide +kernel, by decide +kernel⟩
abbrev s_are_integers : Stmt := topS 7
abbrev n_are_integers : List Str := ["value", "least", "greatest", "part"]
abbrev p_are_integers : List Str := ["value", "least", "greatest"]
theorem sc_are_integers : FnScope n_are_integers p_are_integers (defScope s_are_integers) := ⟨rfl, rfl, rfl, by decide +kernel, rfl, by decide +kernel, by decide +kernel⟩
abbrev s_require : Stmt := topS 8
abbrev n_require : List Str := ["holds", "name"]
abbrev p_require : List Str := ["holds", "name"]
theorem sc_require : FnScope n_require p_require (defScope s_require) := ⟨rfl, rfl, rfl, by decide +kernel, rfl, by decide +kernel, by decide +kernel⟩
abbrev s_is_allocation : Stmt := topS 10
abbrev n_is_allocation : List Str := ["value", "variants", "buckets"]
abbrev p_is_allocation : List Str := ["value", "variants", "buckets"]
theorem sc_is_allocation : FnScope n_is_allocation p_is_allocation (defScope s_is_allocation) := ⟨rfl, rfl, rfl, by decide +kernel, rfl, by decide +kernel, by decide +kernel⟩
abbrev s_is_bounded_allocation : Stmt := topS 11
abbrev n_is_bounded_allocation : List Str := ["value"]
abbrev p_is_bounded_allocation : List Str := ["value"]
theorem sc_is_bounded_allocation : FnScope n_is_bounded_allocation p_is_bounded_allocation (defScope s_is_bounded_allocation) := ⟨rfl, rfl, rfl, by decide +kernel, rfl, by decide +kernel, by decide +kernel⟩
abbrev s_are_allocations : Stmt := topS 12
abbrev n_are_allocations : List Str := ["value", "most", "each"]
abbrev p_are_allocations : List Str := ["value", "most"]
theorem sc_are_allocations : FnScope n_are_allocations p_are_allocations (defScope s_are_allocations) := ⟨rfl, rfl, rfl, by decide +kernel, rfl, by decide +kernel, by decide +kernel⟩
abbrev s_is_bounded_assignment : Stmt := topS 14
abbrev n_is_bounded_assignment : List Str := ["value", "variants"]
abbrev p_is_bounded_assignment : List Str := ["value", "variants"]
theorem sc_is_bounded_assignment : FnScope n_is_bounded_assignment p_is_bounded_assignment (defScope s_is_bounded_assignment) := ⟨rfl, rfl, rfl, by decide +kernel, rfl, by decide +kernel, by decide +kernel⟩
abbrev s_check_assignment : Stmt := topS 15
abbrev n_check_assignment : List Str := ["value", "name"]
abbrev p_check_assignment : List Str := ["value", "name"]
theorem sc_check_assignment : FnScope n_check_assignment p_check_assignment (defScope s_check_assignment) := ⟨rfl, rfl, rfl, by decide +kernel, rfl, by decide +kernel, by decide +kernel⟩
abbrev s_check_enough : Stmt := topS 16
abbrev n_check_enough : List Str := ["variants", "assignment", "least"]
abbrev p_check_enough : List Str := ["variants", "assignment"]
theorem sc_check_enough : FnScope n_check_enough p_check_enough (defScope s_check_enough) := ⟨rfl, rfl, rfl, by decide +kernel, rfl, by decide +kernel, by decide +kernel⟩
abbrev s_allocation_of : Stmt := topS 17
abbrev n_allocation_of : List Str := ["assignment", "variants", "variant"]
abbrev p_allocation_of : List Str := ["assignment", "variants"]
theorem sc_allocation_of : FnScope n_allocation_of p_allocation_of (defScope s_allocation_of) := ⟨rfl, rfl, rfl, by decide +kernel, rfl, by decide +kernel, by decide +kernel⟩
abbrev s_one_after_another : Stmt := topS 18
abbrev n_one_after_another : List Str := ["allocation", "order", "row", "variant"]
abbrev p_one_after_another : List Str := ["allocation", "order"]
theorem sc_one_after_another : FnScope n_one_after_another p_one_after_another (defScope s_one_after_another) := ⟨rfl, rfl, rfl, by decide +kernel, rfl, by decide +kernel, by decide +kernel⟩
abbrev s_ascending : Stmt := topS 19
abbrev n_ascending : List Str := ["allocation"]
abbrev p_ascending : List Str := ["allocation"]
theorem sc_ascending : FnScope n_ascending p_ascending (defScope s_ascending) := ⟨rfl, rfl, rfl, by decide +kernel, rfl, by decide +kernel, by decide +kernel⟩
abbrev s_first_state : Stmt := topS 21
abbrev n_first_state : List Str := ["allocation", "assignment", "left", "leaving", "old", "new", "entering"]
abbrev p_first_state : List Str := ["allocation", "assignment"]
theorem sc_first_state : FnScope n_first_state p_first_state (defScope s_first_state) := ⟨rfl, rfl, rfl, by decide +kernel, rfl, by decide +kernel, by decide +kernel⟩
abbrev s_options : Stmt := topS 22
abbrev n_options : List Str := ["state", "old", "left", "leaving", "entering", "found", "variant", "many"]
abbrev p_options : List Str := ["state", "old"]
theorem sc_options : FnScope n_options p_options (defScope s_options) := ⟨rfl, rfl, rfl, by decide +kernel, rfl, by decide +kernel, by decide +kernel⟩
abbrev s_one_less : Stmt := topS 23
abbrev n_one_less : List Str := ["numbers", "place"]
abbrev p_one_less : List Str := ["numbers", "place"]
theorem sc_one_less : FnScope n_one_less p_one_less (defScope s_one_less) := ⟨rfl, rfl, rfl, by decide +kernel, rfl, by decide +kernel, by decide +kernel⟩
abbrev s_state_after : Stmt := topS 24
abbrev n_state_after : List Str := ["state", "old", "new", "left", "leaving", "entering"]
abbrev p_state_after : List Str := ["state", "old", "new"]
theorem sc_state_after : FnScope n_state_after p_state_after (defScope s_state_after) := ⟨rfl, rfl, rfl, by decide +kernel, rfl, by decide +kernel, by decide +kernel⟩
abbrev s_first_way : Stmt := topS 25
abbrev n_first_way : List Str := ["state", "olds", "news", "old", "new"]
abbrev p_first_way : List Str := ["state", "olds"]
theorem sc_first_way : FnScope n_first_way p_first_way (defScope s_first_way) := ⟨rfl, rfl, rfl, by decide +kernel, rfl, by decide +kernel, by decide +kernel⟩
abbrev s_check_steps : Stmt := topS 28
abbrev n_check_steps : List Str := ["allocations"]
abbrev p_check_steps : List Str := ["allocations"]
theorem sc_check_steps : FnScope n_check_steps p_check_steps (defScope s_check_steps) := ⟨rfl, rfl, rfl, by decide +kernel, rfl, by decide +kernel, by decide +kernel⟩
abbrev s_steps_of : Stmt := topS 29
abbrev n_steps_of : List Str := ["parts"]
abbrev p_steps_of : List Str := ["parts"]
theorem sc_steps_of : FnScope n_steps_of p_steps_of (defScope s_steps_of) := ⟨rfl, rfl, rfl, by decide +kernel, rfl, by decide +kernel, by decide +kernel⟩
abbrev s_decreases : Stmt := topS 30
abbrev n_decreases : List Str := ["allocations", "steps", "variants", "before", "after", "v"]
abbrev p_decreases : List Str := ["allocations"]
theorem sc_decreases : FnScope n_decreases p_decreases (defScope s_decreases) := ⟨rfl, rfl, rfl, by decide +kernel, rfl, by decide +kernel, by decide +kernel⟩
abbrev s_overdrawn : Stmt := topS 31
abbrev n_overdrawn : List Str := ["allocations", "variant", "lost"]
abbrev p_overdrawn : List Str := ["allocations"]
theorem sc_overdrawn : FnScope n_overdrawn p_overdrawn (defScope s_overdrawn) := ⟨rfl, rfl, rfl, by decide +kernel, rfl, by decide +kernel, by decide +kernel⟩
abbrev s_calm_change : Stmt := topS 32
abbrev n_calm_change : List Str := ["allocation", "start", "assignment", "_", "leaving", "entering", "fresh", "bucket", "variant", "olds", "news", "changed"]
abbrev p_calm_change : List Str := ["allocation", "start", "assignment"]
theorem sc_calm_change : FnScope n_calm_change p_calm_change (defScope s_calm_change) := ⟨rfl, rfl, rfl, by decide +kernel, rfl, by decide +kernel, by decide +kernel⟩
abbrev s_calm_history : Stmt := topS 33
abbrev n_calm_history : List Str := ["allocations", "history", "allocation"]
abbrev p_calm_history : List Str := ["allocations"]
theorem sc_calm_history : FnScope n_calm_history p_calm_history (defScope s_calm_history) := ⟨rfl, rfl, rfl, by decide +kernel, rfl, by decide +kernel, by decide +kernel⟩
abbrev s__law_stream : Stmt := topS 35
abbrev n__law_stream : List Str := ["script"]
abbrev p__law_stream : List Str := ["script"]
theorem sc__law_stream : FnScope n__law_stream p__law_stream (defScope s__law_stream) := ⟨rfl, rfl, rfl, by decide +kernel, rfl, by decide +kernel, by decide +kernel⟩
abbrev s__law_next : Stmt := topS 36
abbrev n__law_next : List Str := ["stream", "many", "k", "cell", "digit"]
abbrev p__law_next : List Str := ["stream", "many"]
theorem sc__law_next : FnScope n__law_next p__law_next (defScope s__law_next) := ⟨rfl, rfl, rfl, by decide +kernel, rfl, by decide +kernel, by decide +kernel⟩
abbrev s__law_is_integer : Stmt := topS 37
abbrev n__law_is_integer : List Str := ["actual"]
abbrev p__law_is_integer : List Str := ["actual"]
theorem sc__law_is_integer : FnScope n__law_is_integer p__law_is_integer (defScope s__law_is_integer) := ⟨rfl, rfl, rfl, by decide +kernel, rfl, by decide +kernel, by decide +kernel⟩
abbrev s__law_equal : Stmt := topS 38
abbrev n__law_equal : List Str := ["actual", "due", "at"]
abbrev p__law_equal : List Str := ["actual", "due"]
theorem sc__law_equal : FnScope n__law_equal p__law_equal (defScope s__law_equal) := ⟨rfl, rfl, rfl, by decide +kernel, rfl, by decide +kernel, by decide +kernel⟩
abbrev s__law_allocation : Stmt := topS 39
abbrev n__law_allocation : List Str := ["stream", "variants", "buckets", "shares", "variant", "bucket"]
abbrev p__law_allocation : List Str := ["stream", "variants", "buckets"]
theorem sc__law_allocation : FnScope n__law_allocation p__law_allocation (defScope s__law_allocation) := ⟨rfl, rfl, rfl, by decide +kernel, rfl, by decide +kernel, by decide +kernel⟩
abbrev s__law_near : Stmt := topS 40
abbrev n__law_near : List Str := ["stream", "allocation", "shares", "turn", "old", "new"]
abbrev p__law_near : List Str := ["stream", "allocation"]
theorem sc__law_near : FnScope n__law_near p__law_near (defScope s__law_near) := ⟨rfl, rfl, rfl, by decide +kernel, rfl, by decide +kernel, by decide +kernel⟩
abbrev s__law_series : Stmt := topS 41
abbrev n__law_series : List Str := ["stream", "variants", "buckets", "many", "found", "turn"]
abbrev p__law_series : List Str := ["stream", "variants", "buckets", "many"]
theorem sc__law_series : FnScope n__law_series p__law_series (defScope s__law_series) := ⟨rfl, rfl, rfl, by decide +kernel, rfl, by decide +kernel, by decide +kernel⟩
abbrev s__law_sorted : Stmt := topS 42
abbrev n__law_sorted : List Str := ["allocation", "found", "variant", "bucket"]
abbrev p__law_sorted : List Str := ["allocation"]
theorem sc__law_sorted : FnScope n__law_sorted p__law_sorted (defScope s__law_sorted) := ⟨rfl, rfl, rfl, by decide +kernel, rfl, by decide +kernel, by decide +kernel⟩
abbrev s__law_assignments : Stmt := topS 43
abbrev n__law_assignments : List Str := ["allocation", "rows", "bucket", "longer", "row", "variant"]
abbrev p__law_assignments : List Str := ["allocation"]
theorem sc__law_assignments : FnScope n__law_assignments p__law_assignments (defScope s__law_assignments) := ⟨rfl, rfl, rfl, by decide +kernel, rfl, by decide +kernel, by decide +kernel⟩
abbrev s__law_transfer : Stmt := topS 44
abbrev n__law_transfer : List Str := ["first", "second", "a", "b"]
abbrev p__law_transfer : List Str := ["first", "second"]
theorem sc__law_transfer : FnScope n__law_transfer p__law_transfer (defScope s__law_transfer) := ⟨rfl, rfl, rfl, by decide +kernel, rfl, by decide +kernel, by decide +kernel⟩
abbrev s__law_churn : Stmt := topS 45
abbrev n__law_churn : List Str := ["first", "second", "at"]
abbrev p__law_churn : List Str := ["first", "second"]
theorem sc__law_churn : FnScope n__law_churn p__law_churn (defScope s__law_churn) := ⟨rfl, rfl, rfl, by decide +kernel, rfl, by decide +kernel, by decide +kernel⟩
abbrev s__law_changes : Stmt := topS 46
abbrev n__law_changes : List Str := ["table", "found", "bucket", "step"]
abbrev p__law_changes : List Str := ["table"]
theorem sc__law_changes : FnScope n__law_changes p__law_changes (defScope s__law_changes) := ⟨rfl, rfl, rfl, by decide +kernel, rfl, by decide +kernel, by decide +kernel⟩
abbrev s__law_small_series : Stmt := topS 47
abbrev n__law_small_series : List Str := ["stream", "variants", "buckets", "many"]
abbrev p__law_small_series : List Str := ["stream"]
theorem sc__law_small_series : FnScope n__law_small_series p__law_small_series (defScope s__law_small_series) := ⟨rfl, rfl, rfl, by decide +kernel, rfl, by decide +kernel, by decide +kernel⟩
abbrev s_law : Stmt := topS 48
abbrev n_law : List Str := ["script", "stream", "allocations", "rows", "step", "due", "after", "longer", "row", "one", "told"]
abbrev p_law : List Str := ["script"]
theorem sc_law : FnScope n_law p_law (defScope s_law) := ⟨rfl, rfl, rfl, by decide +kernel, rfl, by decide +kernel, by decide +kernel⟩
structure Txt (mg : Str → Option Value) : Prop where
  b_abs : mg "abs" = none
  b_all : mg "all" = none
  b_bool : mg "bool" = none
  b_enumerate : mg "enumerate" = none
  b_int : mg "int" = none
  b_isinstance : mg "isinstance" = none
  b_len : mg "len" = none
  b_list : mg "list" = none
  b_max : mg "max" = none
  b_min : mg "min" = none
  b_range : mg "range" = none
  b_sorted : mg "sorted" = none
  b_str : mg "str" = none
  b_sum : mg "sum" = none
  b_tuple : mg "tuple" = none
  b_zip : mg "zip" = none
  k_MOST_VARIANTS : ∃ t, mg "MOST_VARIANTS" = some (.int 5 t)
  k_MOST_BUCKETS : ∃ t, mg "MOST_BUCKETS" = some (.int 20 t)
  k_MOST_ALLOCATIONS : ∃ t, mg "MOST_ALLOCATIONS" = some (.int 10 t)
end W

namespace W
open PySem PySem.Spec PyProof.Rows L2 Lm
theorem ok_is_integer {P : Program} {w : World} {K : PySem.W.Frag} {mg : Str → Option Value} {base : Heap} {f : Addr} {fd : FuncData} (F : Fun K "is_integer" "is_integer" s_is_integer f fd) (T : Txt mg) :
    FnOk P w K mg base CX0 1 f fd p_is_integer (sp_is_integer K) := by
  refine F.ok sc_is_integer (fun vs H Q E h => spD_len h (by rintro ds k d ⟨x, lo, hi, rfl, _⟩; rfl)) (fun cdv A outer s H vs Q E hr h => ⟨_, (pss_cons (ps_if (PW.pt (pw_or (pt_not (pt_val (pe_callB (k_isi (K := K) rfl) rfl T.b_isinstance (by decide +kernel) (pa_cons (pv 0) (pa_cons (pe_ty (n := "int") rfl T.b_int (by decide +kernel)) pa_nil))))) (pw_or1 (pt_val (pe_callB (k_isi (K := K) rfl) rfl T.b_isinstance (by decide +kernel) (pa_cons (pv 0) (pa_cons (pe_ty (n := "bool") rfl T.b_bool (by decide +kernel)) pa_nil))))))) (pss_one (ps_ret pe_bl)) pss_nil)
      (pss_one (ps_ret (pe_chain op_le op_le (pv 1) (pv 0) (pv 2))))), run_pure (N := n_is_integer) (fun ds k d hp => ?_) h⟩)
  obtain ⟨x, lo, hi, rfl, rfl, rfl⟩ := hp
  refine q_if (t_or (t_not (t_B (e_isi (d_var rfl) (kit_int x)))) fun _ => t_B (e_isi (d_var rfl) (kit_bool x))) (fun h => ?_) fun h => q_next ?_
  · refine q_ret d_bl (.inr ⟨rfl, rfl⟩) (.inl ?_)
    cases x <;> first | rfl | (simp [isIntTy, isBoolTy] at h)
  · cases x with
    | int i => exact s_ret (d_chain (d_var rfl) (d_var rfl) fun _ => d_var rfl) (.inr ⟨rfl, rfl⟩) (.inl rfl)
    | _ => simp [isIntTy, isBoolTy] at h

theorem ok_are_integers {P : Program} {w : World} {K : PySem.W.Frag} {mg : Str → Option Value} {base : Heap} {f : Addr} {fd : FuncData} (F : Fun K "are_integers" "are_integers" s_are_integers f fd) (T : Txt mg) (c_is_integer : Cal P w K mg base CX0 1 "is_integer" p_is_integer (sp_is_integer K)) :
    FnOk P w K mg base CX0 2 f fd p_are_integers (sp_are_integers K) := by
  refine F.ok sc_are_integers (fun vs H Q E h => spD_len h (by rintro ds k d ⟨x, lo, hi, rfl, _⟩; rfl)) (fun cdv A outer s H vs Q E hr h => ⟨_, (pss_one (ps_ret (pe_and (pe_callB (k_isi (K := K) rfl) rfl T.b_isinstance (by decide +kernel) (pa_cons (pv 0) (pa_cons (pe_ty (n := "tuple") rfl T.b_tuple (by decide +kernel)) pa_nil))) (pe_one (pe_callB (k_all (K := K) rfl rfl) rfl T.b_all (by decide +kernel) (pa_cons (pe_lc rfl sc_are_integers.nd (k_seq (K := K) rfl (pv 0)) (blkOk_by (own := [("part", 3)]) (N := n_are_integers) (sc := defScope s_are_integers) (by decide +kernel)) (fun _ _ _ _ _ => by exact (pg_name (i := 3) sc_are_integers.nd rfl (Or.inl rfl))) (fun _ _ _ _ _ => by exact pts_nil) (fun _ _ _ _ _ => by exact (pe_cal c_is_integer (hr.mono (by decide)) rfl pass0 (pa_cons (pv 3) (pa_cons (pv 1) (pa_cons (pv 2) pa_nil)))))) pa_nil)))))), run_pure (N := n_are_integers) (fun ds k d hp => ?_) h⟩)
  obtain ⟨x, lo, hi, rfl, hx, rfl, rfl⟩ := hp
  refine s_ret ((d_andV (b := areInts x lo hi) (e_isi (d_var rfl) (kit_tuple x)) fun hx' => ?_).to ?_) (.inr ⟨rfl, rfl⟩) (.inl rfl)
  · cases x with
    | tuple es =>
      refine (d_all (d_lcB (fun d => isIntD d lo hi) (i_seqT (d_var rfl) (by intro h; cases h)) (hx es rfl) fun a _ => ⟨_, _, g_name, fun j hj => hj, _, d_call (a_cons (d_var rfl) (a_cons (d_var rfl) (a_cons (d_var rfl) a_nil))) ⟨a, lo, hi, rfl, rfl, rfl⟩⟩)).to ?_
      show PyData.bool _ = .bool (es.all fun d => isIntD d lo hi)
      rw [List.all_map]
      rfl
    | _ => simp [isTupTy] at hx'
  · cases x <;> simp [isTupTy, areInts]

theorem ok_require {P : Program} {w : World} {K : PySem.W.Frag} {mg : Str → Option Value} {base : Heap} {f : Addr} {fd : FuncData} (F : Fun K "require" "require" s_require f fd) (T : Txt mg) :
    FnOk P w K mg base CX0 1 f fd p_require (sp_require K) := by
  refine F.ok sc_require (fun vs H Q E h => spD_len h (by rintro ds k d ⟨nm, rfl, _⟩; rfl)) (fun cdv A outer s H vs Q E hr h => ⟨_, (pss_one (ps_if (pt_not (pt_val (pv 0))) (pss_one ps_never) pss_nil)), run_pure (N := n_require) (fun ds k d hp => ?_) h⟩)
  obtain ⟨nm, rfl, rfl, rfl⟩ := hp
  exact s_no ((t_not (t_B (d_var (d := .bool true) rfl))).to rfl) (s_next (.inr ⟨rfl, rfl, _, rfl⟩))

theorem ok_is_allocation {P : Program} {w : World} {K : PySem.W.Frag} {mg : Str → Option Value} {base : Heap} {f : Addr} {fd : FuncData} (F : Fun K "is_allocation" "is_allocation" s_is_allocation f fd) (T : Txt mg) (c_are_integers : Cal P w K mg base CX0 2 "are_integers" p_are_integers (sp_are_integers K)) :
    FnOk P w K mg base CX0 3 f fd p_is_allocation (sp_is_allocation K) := by
  refine F.ok sc_is_allocation (fun vs H Q E h => spD_len h (by rintro ds k d ⟨x, n, b, rfl, _⟩; rfl)) (fun cdv A outer s H vs Q E hr h => ⟨_, (pss_one (ps_ret (pe_and (pe_cal c_are_integers (hr.mono (by decide)) rfl pass0 (pa_cons (pv 0) (pa_cons pe_int (pa_cons (pv 2) pa_nil)))) (pe_and (pe_cmpR (k_eq (K := K) rfl (rUnits hr)) (pe_callB (k_len (K := K) rfl) rfl T.b_len (by decide +kernel) (pa_cons (pv 0) pa_nil)) (pv 1) (nomark _)) (pe_one (pe_cmpR (k_eq (K := K) rfl (rUnits hr)) (pe_callB (k_sum (K := K) rfl rfl) rfl T.b_sum (by decide +kernel) (pa_cons (pv 0) pa_nil)) (pv 2) (nomark _))))))), run_pure (N := n_is_allocation) (fun ds k d hp => ?_) h⟩)
  obtain ⟨x, n, b, rfl, hx, rfl, rfl⟩ := hp
  refine s_ret (d_andV (d_call (a_cons (d_var rfl) (a_cons d_int (a_cons (d_var rfl) a_nil))) ⟨x, 0, b, rfl, hx, rfl, rfl⟩) fun h => ?_) (.inr ⟨rfl, rfl⟩) (.inl rfl)
  obtain ⟨ns, rfl, _⟩ := areInts_ints h
  refine d_andV ((e_eqI (d_lenT (d_var rfl)) (d_var rfl)).to (by rw [lenT_ints, List.length_map])) fun _ => ?_
  exact (e_eqI (e_sumT (d_var rfl)) (d_var rfl)).to (by rw [sumT_ints])

theorem ok_is_bounded_allocation {P : Program} {w : World} {K : PySem.W.Frag} {mg : Str → Option Value} {base : Heap} {f : Addr} {fd : FuncData} (F : Fun K "is_bounded_allocation" "is_bounded_allocation" s_is_bounded_allocation f fd) (T : Txt mg) (c_are_integers : Cal P w K mg base CX0 2 "are_integers" p_are_integers (sp_are_integers K)) :
    FnOk P w K mg base CX0 3 f fd p_is_bounded_allocation (sp_is_bounded_allocation K) := by
  refine F.ok sc_is_bounded_allocation (fun vs H Q E h => spD_len h (by rintro ds k d ⟨ns, v, b, rfl, _⟩; rfl)) (fun cdv A outer s H vs Q E hr h => ⟨_, (pss_cons (ps_if (pt_not (pt_val (pe_cal c_are_integers (hr.mono (by decide)) rfl pass0 (pa_cons (pv 0) (pa_cons pe_int (pa_cons (pe_const rfl T.k_MOST_BUCKETS) pa_nil)))))) (pss_one (ps_ret pe_bl)) pss_nil)
      (pss_one (ps_ret (pe_and (pe_chain op_le op_le pe_int (pe_callB (k_len (K := K) rfl) rfl T.b_len (by decide +kernel) (pa_cons (pv 0) pa_nil)) (pe_const rfl T.k_MOST_VARIANTS)) (pe_one (pe_cmpR op_le (pe_callB (k_sum (K := K) rfl rfl) rfl T.b_sum (by decide +kernel) (pa_cons (pv 0) pa_nil)) (pe_const rfl T.k_MOST_BUCKETS) (nomark _))))))), run_pure (N := n_is_bounded_allocation) (fun ds k d hp => ?_) h⟩)
  obtain ⟨ns, v, b, rfl, ha, h1, h5, hb, rfl, rfl⟩ := hp
  have hl := ha.len
  refine q_no ((t_not (t_B (d_call (a_cons (d_var rfl) (a_cons d_int (a_cons d_int a_nil))) ⟨.tuple (ns.map .int), 0, 20, rfl, small_ints (by omega), rfl, rfl⟩))).to ?_) ?_
  · rw [areInts_of fun n hn => ⟨ha.nn n hn, by have := ha.le n hn; omega⟩]; rfl
  refine s_ret ((d_andV (d_chain d_int (d_lenT (d_var rfl)) fun _ => d_int) fun _ => d_le (e_sumT (d_var rfl)) d_int).to ?_) (.inr ⟨rfl, rfl⟩) (.inl rfl)
  rw [List.length_map, ha.sum]
  simp
  omega

theorem ok_are_allocations {P : Program} {w : World} {K : PySem.W.Frag} {mg : Str → Option Value} {base : Heap} {f : Addr} {fd : FuncData} (F : Fun K "are_allocations" "are_allocations" s_are_allocations f fd) (T : Txt mg) (c_is_bounded_allocation : Cal P w K mg base CX0 3 "is_bounded_allocation" p_is_bounded_allocation (sp_is_bounded_allocation K)) (c_is_allocation : Cal P w K mg base CX0 3 "is_allocation" p_is_allocation (sp_is_allocation K)) :
    FnOk P w K mg base CX0 4 f fd p_are_allocations (sp_are_allocations K) := by
  refine F.ok sc_are_allocations (fun vs H Q E h => spD_len h (by rintro ds k d ⟨A, v, b, rfl, _⟩; rfl)) (fun cdv A outer s H vs Q E hr h => ⟨_, (pss_cons (ps_if (PW.pt (pw_or (pt_not (pt_val (pe_callB (k_isi (K := K) rfl) rfl T.b_isinstance (by decide +kernel) (pa_cons (pv 0) (pa_cons (pe_ty (n := "tuple") rfl T.b_tuple (by decide +kernel)) pa_nil))))) (pw_or1 (pt_not (pt_chain op_le op_le pe_int (pe_callB (k_len (K := K) rfl) rfl T.b_len (by decide +kernel) (pa_cons (pv 0) pa_nil)) (pv 1)))))) (pss_one (ps_ret pe_bl)) pss_nil)
      (pss_cons (ps_if (pt_not (pt_val (pe_cal c_is_bounded_allocation (hr.mono (by decide)) rfl pass0 (pa_cons (pe_ix (k_ix (K := K) rfl) (pv 0) pe_int (fun _ _ => rfl)) pa_nil)))) (pss_one (ps_ret pe_bl)) pss_nil)
      (pss_one (ps_ret (pe_callB (k_all (K := K) rfl rfl) rfl T.b_all (by decide +kernel) (pa_cons (pe_lc rfl sc_are_allocations.nd (k_seq (K := K) rfl (pv 0)) (blkOk_by (own := [("each", 2)]) (N := n_are_allocations) (sc := defScope s_are_allocations) (by decide +kernel)) (fun _ _ _ _ _ => by exact (pg_name (i := 2) sc_are_allocations.nd rfl (Or.inl rfl))) (fun _ _ _ _ _ => by exact pts_nil) (fun _ _ _ _ _ => by exact (pe_cal c_is_allocation (hr.mono (by decide)) rfl pass0 (pa_cons (pv 2) (pa_cons (pe_callB (k_len (K := K) rfl) rfl T.b_len (by decide +kernel) (pa_cons (pe_ix (k_ix (K := K) rfl) (pv 0) pe_int (fun _ _ => rfl)) pa_nil)) (pa_cons (pe_callB (k_sum (K := K) rfl rfl) rfl T.b_sum (by decide +kernel) (pa_cons (pe_ix (k_ix (K := K) rfl) (pv 0) pe_int (fun _ _ => rfl)) pa_nil)) pa_nil)))))) pa_nil)))))), run_pure (N := n_are_allocations) (fun ds k d hp => ?_) h⟩)
  obtain ⟨A, v, b, rfl, h, rfl, rfl⟩ := hp
  have h1 := h.l1
  have h2 := h.l2
  have h0 := h.at (i := 0) (by omega)
  refine q_no ((t_or (t_not (t_B (e_isi (d_var rfl) rfl))) fun _ => t_not (t_test (d_chain d_int (d_lenT (d_var rfl)) fun _ => d_var rfl))).to ?_) ?_
  · simp; omega
  refine q_no ((t_not (t_B (d_call (k := .v) (d := .bool true) (a_cons (e_ixT (d_var rfl) d_int (at_tup (j := 0) (by omega)) (flatT _)) a_nil) ⟨A.getD 0 [], v, b, rfl, h0, h.v1, h.v5, h.b20, rfl, rfl⟩))).to rfl) ?_
  refine s_ret ((d_all (d_lcB (l := A) (en := tupI) (fun _ => true) (i_rowsT (d_var rfl) kv_ne) (by omega) fun a ha => ⟨_, _, g_name, fun j hj => hj, .v, ?_⟩)).to ?_) (.inr ⟨rfl, rfl⟩) (.inl rfl)
  · refine (d_call (k := .v) (a_cons (d_var rfl) (a_cons (d_lenT (e_ixT (d_var rfl) d_int (at_tup (j := 0) (by omega)) (flatT _))) (a_cons (e_sumT (e_ixT (d_var rfl) d_int (at_tup (j := 0) (by omega)) (flatT _))) a_nil))) ⟨tupD a, _, _, rfl, small_ints (by have := h.len a ha; have := h.v5; omega), rfl, rfl⟩).to ?_
    rw [List.length_map, h0.len, h0.sum, (h.alc a ha).isAlloc]
  · simp

theorem ok_is_bounded_assignment {P : Program} {w : World} {K : PySem.W.Frag} {mg : Str → Option Value} {base : Heap} {f : Addr} {fd : FuncData} (F : Fun K "is_bounded_assignment" "is_bounded_assignment" s_is_bounded_assignment f fd) (T : Txt mg) (c_are_integers : Cal P w K mg base CX0 2 "are_integers" p_are_integers (sp_are_integers K)) :
    FnOk P w K mg base CX0 3 f fd p_is_bounded_assignment (sp_is_bounded_assignment K) := by
  refine F.ok sc_is_bounded_assignment (fun vs H Q E h => spD_len h (by rintro ds k d ⟨x, v, rfl, _⟩; rfl)) (fun cdv A outer s H vs Q E hr h => ⟨_, (pss_one (ps_ret (pe_and (pe_cal c_are_integers (hr.mono (by decide)) rfl pass0 (pa_cons (pv 0) (pa_cons pe_int (pa_cons (pe_op op_sub (pv 1) pe_int) pa_nil)))) (pe_one (pe_cmpR op_le (pe_callB (k_len (K := K) rfl) rfl T.b_len (by decide +kernel) (pa_cons (pv 0) pa_nil)) (pe_const rfl T.k_MOST_BUCKETS) (nomark _)))))), run_pure (N := n_is_bounded_assignment) (fun ds k d hp => ?_) h⟩)
  obtain ⟨x, v, rfl, hx, rfl, rfl⟩ := hp
  refine s_ret (d_andV (d_call (a_cons (d_var rfl) (a_cons d_int (a_cons (d_sub (d_var rfl) d_int) a_nil))) ⟨x, 0, v - 1, rfl, hx, rfl, rfl⟩) fun h => ?_) (.inr ⟨rfl, rfl⟩) (.inl rfl)
  obtain ⟨ns, rfl, _⟩ := areInts_ints h
  exact (d_le (d_lenT (d_var rfl)) d_int).to (by rw [lenT_ints, List.length_map])

theorem ok_check_assignment {P : Program} {w : World} {K : PySem.W.Frag} {mg : Str → Option Value} {base : Heap} {f : Addr} {fd : FuncData} (F : Fun K "check_assignment" "check_assignment" s_check_assignment f fd) (T : Txt mg) (c_require : Cal P w K mg base CX0 1 "require" p_require (sp_require K)) (c_is_bounded_assignment : Cal P w K mg base CX0 3 "is_bounded_assignment" p_is_bounded_assignment (sp_is_bounded_assignment K)) :
    FnOk P w K mg base CX0 4 f fd p_check_assignment (sp_check_assignment K) := by
  refine F.ok sc_check_assignment (fun vs H Q E h => spD_len h (by rintro ds k d ⟨x, nm, rfl, _⟩; rfl)) (fun cdv A outer s H vs Q E hr h => ⟨_, (pss_one (ps_expr (pe_cal c_require (hr.mono (by decide)) rfl pass0 (pa_cons (pe_cal c_is_bounded_assignment (hr.mono (by decide)) rfl pass0 (pa_cons (pv 0) (pa_cons (pe_const rfl T.k_MOST_VARIANTS) pa_nil))) (pa_cons (pv 1) pa_nil))))), run_pure (N := n_check_assignment) (fun ds k d hp => ?_) h⟩)
  obtain ⟨x, nm, rfl, hx, hb, rfl, rfl⟩ := hp
  refine s_drop (d_call (a_cons (d_call (a_cons (d_var rfl) (a_cons d_int a_nil)) ⟨x, 5, rfl, hx, rfl, rfl⟩) (a_cons (d_var rfl) a_nil)) ⟨nm, by rw [hb], rfl, rfl⟩) (.inr ⟨rfl, rfl, _, rfl⟩)

theorem ok_check_enough {P : Program} {w : World} {K : PySem.W.Frag} {mg : Str → Option Value} {base : Heap} {f : Addr} {fd : FuncData} (F : Fun K "check_enough" "check_enough" s_check_enough f fd) (T : Txt mg) (c_require : Cal P w K mg base CX0 1 "require" p_require (sp_require K)) (c_is_integer : Cal P w K mg base CX0 1 "is_integer" p_is_integer (sp_is_integer K)) :
    FnOk P w K mg base CX0 2 f fd p_check_enough (sp_check_enough K) := by
  refine F.ok sc_check_enough (fun vs H Q E h => spD_len h (by rintro ds k d ⟨v, ns, rfl, _⟩; rfl)) (fun cdv A outer s H vs Q E hr h => ⟨_, (pss_cons (ps_set (i := 2) sc_check_enough.nd rfl (Or.inl rfl) (pe_op (k_add (K := K) rfl) (pe_callBK (k_maxD (K := K) rfl rfl) rfl T.b_max (by decide +kernel) (pa_cons (pv 1) pa_nil) (pk_cons pe_int pk_nil)) pe_int))
      (pss_one (ps_expr (pe_cal c_require (hr.mono (by decide)) rfl pass0 (pa_cons (pe_cal c_is_integer (hr.mono (by decide)) rfl pass0 (pa_cons (pv 0) (pa_cons (pv 2) (pa_cons (pe_const rfl T.k_MOST_VARIANTS) pa_nil)))) (pa_cons pe_str pa_nil)))))), run_pure (N := n_check_enough) (fun ds k d hp => ?_) h⟩)
  obtain ⟨v, ns, rfl, h1, h2, rfl, rfl⟩ := hp
  refine q_asg (e_add (e_maxD (d_var rfl) d_int) d_int) ?_
  refine s_drop (d_call (a_cons (d_call (a_cons (d_var rfl) (a_cons (d_var rfl) (a_cons d_int a_nil))) ⟨.int v, mxD 0 ns + 1, 5, rfl, rfl, rfl⟩) (a_cons d_str a_nil)) ⟨"variants", ?_, rfl, rfl⟩) (.inr ⟨rfl, rfl, _, rfl⟩)
  simp [isIntD, h1, h2]

theorem ok_allocation_of {P : Program} {w : World} {K : PySem.W.Frag} {mg : Str → Option Value} {base : Heap} {f : Addr} {fd : FuncData} (F : Fun K "allocation_of" "allocation_of" s_allocation_of f fd) (T : Txt mg) (c_check_assignment : Cal P w K mg base CX0 4 "check_assignment" p_check_assignment (sp_check_assignment K)) (c_check_enough : Cal P w K mg base CX0 2 "check_enough" p_check_enough (sp_check_enough K)) :
    FnOk P w K mg base CX0 5 f fd p_allocation_of (sp_allocation_of K) := by
  refine F.ok sc_allocation_of (fun vs H Q E h => spD_len h (by rintro ds k d ⟨ns, v, rfl, _⟩; rfl)) (fun cdv A outer s H vs Q E hr h => ⟨_, (pss_cons (ps_expr (pe_cal c_check_assignment (hr.mono (by decide)) rfl pass0 (pa_cons (pv 0) (pa_cons pe_str pa_nil))))
      (pss_cons (ps_expr (pe_cal c_check_enough (hr.mono (by decide)) rfl pass0 (pa_cons (pv 1) (pa_cons (pv 0) pa_nil))))
      (pss_one (ps_ret (pe_callTy (k_tuple (K := K) rfl) rfl T.b_tuple (by decide +kernel) (pa_cons (pe_lc rfl sc_allocation_of.nd (pi_range1 rfl T.b_range (pa_cons (pv 1) pa_nil)) (blkOk_by (own := [("variant", 2)]) (N := n_allocation_of) (sc := defScope s_allocation_of) (by decide +kernel)) (fun _ _ _ _ _ => by exact (pg_name (i := 2) sc_allocation_of.nd rfl (Or.inl rfl))) (fun _ _ _ _ _ => by exact pts_nil) (fun _ _ _ _ _ => by exact (k_tm (K := K) rfl PySem.F.slot_tuple_count PySem.F.type_tuple_count (k_count (K := K) rfl) (pv 0) (pa_cons (pv 2) pa_nil)))) pa_nil)))))), run_pure (N := n_allocation_of) (fun ds k d hp => ?_) h⟩)
  obtain ⟨ns, v, rfl, ha, h1, h5, rfl, rfl⟩ := hp
  refine q_drop (d_call (a_cons (d_var rfl) (a_cons d_str a_nil)) ⟨_, _, rfl, ha.small, ha.bAsg h5, rfl, rfl⟩) ?_
  refine q_drop (d_call (a_cons (d_var rfl) (a_cons (d_var rfl) a_nil)) ⟨v, ns, rfl, ?_, h5, rfl, rfl⟩) ?_
  · have := mxD_le (ns := ns) (b := v - 1) (by omega) fun n hn => by have := (ha.rng n hn).2; omega
    omega
  refine s_ret (d_tuple ((d_lcI (fun i => (ns.count i : Int)) (i_rng1 (a_cons (d_var rfl) a_nil) (by omega) (by omega)) (by simp [upI]; omega) fun i _ => ⟨_, _, g_name, fun j hj => hj, _, d_count (d_var rfl) (d_var rfl)⟩)) (flatAll_ints _)) (.inr ⟨rfl, ?_⟩) (.inl rfl)
  exact flatT _

theorem ok_one_after_another {P : Program} {w : World} {K : PySem.W.Frag} {mg : Str → Option Value} {base : Heap} {f : Addr} {fd : FuncData} (F : Fun K "one_after_another" "one_after_another" s_one_after_another f fd) (T : Txt mg) :
    FnOk P w K mg base CX0 1 f fd p_one_after_another (sp_one_after_another K) := by
  refine F.ok sc_one_after_another (fun vs H Q E h => spD_len h (by rintro ds k d ⟨as, os, v, b, rfl, _⟩; rfl)) (fun cdv A outer s H vs Q E hr h => ⟨_, (pss_cons (ps_set (i := 2) sc_one_after_another.nd rfl (Or.inl rfl) (pe_lst pa_nil))
      (pss_cons (ps_for PassesOwn.never rfl (k_seq (K := K) rfl (pv 1)) (pg_name (i := 3) sc_one_after_another.nd rfl (Or.inl rfl)) (pss_one (ps_expr (k_bm (K := K) rfl PySem.F.plainAttrs_list PySem.F.slot_list_extend PySem.F.type_list_extend mt_extend (pv 2) (pa_cons (pe_op op_mulA (pe_lst (pa_cons (pv 3) pa_nil)) (pe_ix (k_ix (K := K) rfl) (pv 0) (pv 3) (fun _ _ => rfl))) pa_nil)))))
      (pss_one (ps_ret (pe_callTy (k_tuple (K := K) rfl) rfl T.b_tuple (by decide +kernel) (pa_cons (pv 2) pa_nil)))))), run_pure (N := n_one_after_another) (fun ds k d hp => ?_) h⟩)
  obtain ⟨as, os, v, b, rfl, h, o, hv, hb, rfl, rfl⟩ := hp
  have hl := h.len
  have ol := o.len
  have rl := runL_length h o
  refine q_asgO (d := .list (([] : List Int).map .int)) (d_lst (kv := false) (ds := []) a_nil rfl (by decide)) ?_
  refine q_for (i_seqTI (ns := os) (d_var rfl) kv_ne)
    (fun n Γ1 => ∃ t3, Γ1 = [some (.v (.tuple (as.map .int))), some (.v (.tuple (os.map .int))), some (.o (.list ((runL as (os.take n)).map .int))), t3]) ⟨_, rfl⟩ (fun n a Γ1 hn' hI => ?_) (fun Γ1 hI => ?_)
  · obtain ⟨t3, rfl⟩ := hI
    obtain ⟨hn, j, hj, e, rfl⟩ := ord_at o hn'
    have a0 := h.nn _ (gd_mem (l := as) (j := j) (by omega))
    have a1 := h.le _ (gd_mem (l := as) (j := j) (by omega))
    have tl := runL_take (as := as) (os := os) n
    refine ⟨_, _, g_name, s_ext rfl ((e_rep (d_lst (kv := false) (ds := [.int (j : Int)]) (a_cons (d_var rfl) a_nil) rfl (by simp)) rfl (e_ixT (d_var rfl) (d_var rfl) (at_ints (show j < as.length by omega)) rfl) (by omega) (by omega) (by show 1 * _ ≤ _; omega)).to (by rw [rep_int])) (flatAll_ints _) (by rw [List.length_map, List.length_map, List.length_replicate]; omega) (.inl ⟨_, .inl rfl, some (.v (.int (j : Int))), ?_⟩)⟩
    rw [take_one hn, runL_snoc, e, List.map_append]
    rfl
  · obtain ⟨t3, rfl⟩ := hI
    have e : os.take (os.map imI).length = os := List.take_of_length_le (by simp)
    rw [e]
    exact s_ret (d_tuple (d_varO rfl) (flatAll_ints _)) (.inr ⟨rfl, flatT _⟩) (.inl rfl)

theorem ok_ascending {P : Program} {w : World} {K : PySem.W.Frag} {mg : Str → Option Value} {base : Heap} {f : Addr} {fd : FuncData} (F : Fun K "ascending" "ascending" s_ascending f fd) (T : Txt mg) (c_one_after_another : Cal P w K mg base CX0 1 "one_after_another" p_one_after_another (sp_one_after_another K)) :
    FnOk P w K mg base CX0 2 f fd p_ascending (sp_ascendingR K) := by
  refine F.ok sc_ascending (fun vs H Q E h => spD_len h (by rintro ds k d ⟨ns, v, b, rfl, _⟩; rfl)) (fun cdv A outer s H vs Q E hr h => ⟨_, (pss_one (ps_ret (pe_cal c_one_after_another (hr.mono (by decide)) rfl pass0 (pa_cons (pv 0) (pa_cons (pe_tupRn rfl rfl T.b_tuple (prg_1 rfl T.b_range (pe_callB (k_len (K := K) rfl) rfl T.b_len (by decide +kernel) (pa_cons (pv 0) pa_nil)))) pa_nil))))), run_pure (N := n_ascending) (fun ds k d hp => ?_) h⟩)
  obtain ⟨ns, v, b, rfl, h, v1, hv, hb, rfl, rfl⟩ := hp
  have hl := h.len
  exact s_ret (d_call (k := .v) (a_cons (d_var rfl) (a_cons (e_tupRg (i := v) ((d_lenT (d_var rfl)).to (by rw [List.length_map, hl])) (by omega) (by omega)) a_nil)) ⟨ns, _, v, b, rfl, h, ord_upI (by omega), hv, hb, rfl, rfl⟩) (.inr ⟨rfl, flatT _⟩) (.inl rfl)

theorem ok_first_state {P : Program} {w : World} {K : PySem.W.Frag} {mg : Str → Option Value} {base : Heap} {f : Addr} {fd : FuncData} (F : Fun K "first_state" "first_state" s_first_state f fd) (T : Txt mg) (c_allocation_of : Cal P w K mg base CX0 5 "allocation_of" p_allocation_of (sp_allocation_of K)) :
    FnOk P w K mg base CX0 6 f fd p_first_state (sp_first_state K) := by
  refine F.ok sc_first_state (fun vs H Q E h => spD_len h (by rintro ds k d ⟨as, f, v, rfl, _⟩; rfl)) (fun cdv A outer s H vs Q E hr h => ⟨_, (pss_cons (ps_set (i := 2) sc_first_state.nd rfl (Or.inl rfl) (pe_cal c_allocation_of (hr.mono (by decide)) rfl pass0 (pa_cons (pv 1) (pa_cons (pe_callB (k_len (K := K) rfl) rfl T.b_len (by decide +kernel) (pa_cons (pv 0) pa_nil)) pa_nil))))
      (pss_cons (ps_set (i := 3) sc_first_state.nd rfl (Or.inl rfl) (pe_callTy (k_tuple (K := K) rfl) rfl T.b_tuple (by decide +kernel) (pa_cons (pe_lc rfl sc_first_state.nd (k_zip (K := K) rfl rfl T.b_zip (pa_cons (pv 2) (pa_cons (pv 0) pa_nil))) (blkOk_by (own := [("old", 4), ("new", 5)]) (N := n_first_state) (sc := defScope s_first_state) (by decide +kernel)) (fun _ _ _ _ _ => by exact (k_tup (K := K) (n := 2) rfl rfl (pgs_cons (pg_name (i := 4) sc_first_state.nd rfl (Or.inl rfl)) (pgs_cons (pg_name (i := 5) sc_first_state.nd rfl (Or.inl rfl)) pgs_nil)))) (fun _ _ _ _ _ => by exact pts_nil) (fun _ _ _ _ _ => by exact (pe_callB (call_max2 rfl) rfl T.b_max (by decide +kernel) (pa_cons (pe_op op_sub (pv 4) (pv 5)) (pa_cons pe_int pa_nil))))) pa_nil)))
      (pss_cons (ps_set (i := 6) sc_first_state.nd rfl (Or.inl rfl) (pe_callTy (k_tuple (K := K) rfl) rfl T.b_tuple (by decide +kernel) (pa_cons (pe_lc rfl sc_first_state.nd (k_zip (K := K) rfl rfl T.b_zip (pa_cons (pv 2) (pa_cons (pv 0) pa_nil))) (blkOk_by (own := [("old", 4), ("new", 5)]) (N := n_first_state) (sc := defScope s_first_state) (by decide +kernel)) (fun _ _ _ _ _ => by exact (k_tup (K := K) (n := 2) rfl rfl (pgs_cons (pg_name (i := 4) sc_first_state.nd rfl (Or.inl rfl)) (pgs_cons (pg_name (i := 5) sc_first_state.nd rfl (Or.inl rfl)) pgs_nil)))) (fun _ _ _ _ _ => by exact pts_nil) (fun _ _ _ _ _ => by exact (pe_callB (call_max2 rfl) rfl T.b_max (by decide +kernel) (pa_cons (pe_op op_sub (pv 5) (pv 4)) (pa_cons pe_int pa_nil))))) pa_nil)))
      (pss_one (ps_ret (pe_tupN (pa_cons (pv 2) (pa_cons (pv 3) (pa_cons (pv 6) pa_nil))))))))), run_pure (N := n_first_state) (fun ds k d hp => ?_) h⟩)
  obtain ⟨as, f, v, rfl, hf, ha, h1, h5, rfl, rfl⟩ := hp
  have hl := ha.len
  refine q_asg (d_call (k := .v) (a_cons (d_var rfl) (a_cons (d_lenT (d_var rfl)) a_nil)) ⟨f, v, by rw [List.length_map, hl], hf, h1, h5, rfl, rfl⟩) ?_
  refine q_asg (d_tuple (ds := (lvI (countsI f v) as).map .int) (d_lcI (l := (countsI f v).zip as) (en := zipI) (fun p => t0 p.1 p.2) (i_zipTI (a_consV (d_var rfl) (a_consV (d_var rfl) a_nil))) (by simp; omega) fun p _ => ⟨_, _, g_tup rfl (g_cons g_name (g_cons g_name g_nil)), fun j hj => hj, .v, e_max2 (d_sub (d_var rfl) (d_var rfl)) d_int⟩) (flatAll_ints _)) ?_
  refine q_asg (d_tuple (ds := (enI (countsI f v) as).map .int) (d_lcI (l := (countsI f v).zip as) (en := zipI) (fun p => t0 p.2 p.1) (i_zipTI (a_consV (d_var rfl) (a_consV (d_var rfl) a_nil))) (by simp; omega) fun p _ => ⟨_, _, g_tup rfl (g_cons g_name (g_cons g_name g_nil)), fun j hj => hj, .v, e_max2 (d_sub (d_var rfl) (d_var rfl)) d_int⟩) (flatAll_ints _)) ?_
  exact s_ret (d_tup (a_consV (d_var rfl) (a_consV (d_var rfl) (a_consV (d_var rfl) a_nil))) (by simp)) (.inr ⟨rfl, by simp [flatD, flatAll, flatAll_ints]⟩) (.inl rfl)

theorem ok_options {P : Program} {w : World} {K : PySem.W.Frag} {mg : Str → Option Value} {base : Heap} {f : Addr} {fd : FuncData} (F : Fun K "options" "options" s_options f fd) (T : Txt mg) :
    FnOk P w K mg base CX0 1 f fd p_options (sp_options K) := by
  refine F.ok sc_options (fun vs H Q E h => spD_len h (by rintro ds k d ⟨S, v, o, f, rfl, _⟩; rfl)) (fun cdv A outer s H vs Q E hr h => ⟨_, (pss_cons (ps_asg (pv 0) (k_tupA (K := K) (n := 3) rfl rfl (pgs_cons (pg_name (i := 2) sc_options.nd rfl (Or.inl rfl)) (pgs_cons (pg_name (i := 3) sc_options.nd rfl (Or.inl rfl)) (pgs_cons (pg_name (i := 4) sc_options.nd rfl (Or.inl rfl)) pgs_nil)))))
      (pss_cons (ps_if (pt_cmpR (k_eq (K := K) rfl (rUnits hr)) (pe_ix (k_ix (K := K) rfl) (pv 3) (pv 1) (fun _ _ => rfl)) pe_int (nomark _)) (pss_one (ps_ret (pe_lst (pa_cons (pv 1) pa_nil)))) pss_nil)
      (pss_cons (ps_setLc (i := 5) rfl sc_options.nd rfl rfl (sw_true rfl rfl rfl (by decide +kernel)) (k_enum (K := K) rfl rfl T.b_enumerate (pa_cons (pv 4) pa_nil)) (blkOk_by (own := [("variant", 6), ("many", 7)]) (N := n_options) (sc := defScope s_options) (by decide +kernel)) (fun _ _ _ _ _ => by exact (k_tup (K := K) (n := 2) rfl rfl (pgs_cons (pg_name (i := 6) sc_options.nd rfl (Or.inl rfl)) (pgs_cons (pg_name (i := 7) sc_options.nd rfl (Or.inl rfl)) pgs_nil)))) (fun _ _ _ _ _ => by exact (pts_one (pt_cmpR op_gt (pv 7) pe_int (nomark _)))) (fun _ _ _ _ _ => by exact (pv 6)))
      (pss_cons (ps_if (pt_cmpR op_lt (pe_ix (k_ix (K := K) rfl) (pv 3) (pv 1) (fun _ _ => rfl)) (pe_ix (k_ix (K := K) rfl) (pv 2) (pv 1) (fun _ _ => rfl)) (nomark _)) (pss_one (ps_expr (k_bm (K := K) rfl PySem.F.plainAttrs_list PySem.F.slot_list_append PySem.F.type_list_append mt_append (pv 5) (pa_cons (pv 1) pa_nil)))) pss_nil)
      (pss_one (ps_ret (pe_callB (k_sorted (K := K) rfl) rfl T.b_sorted (by decide +kernel) (pa_cons (pv 5) pa_nil)))))))), run_pure (N := n_options) (fun ds k d hp => ?_) h⟩)
  obtain ⟨S, v, o, f, rfl, h, h5, rfl, rfl⟩ := hp
  have ho := h.rng o (by simp)
  have el := h.el
  have ll := h.ll
  have cl := h.cl
  have a1 : atI (S.l.map PyData.int) o = some (.int (gI S.l o)) := by
    obtain ⟨j, rfl⟩ := Int.eq_ofNat_of_zero_le ho.1
    exact at_ints (by omega)
  have a2 : atI (S.c.map PyData.int) o = some (.int (gI S.c o)) := by
    obtain ⟨j, rfl⟩ := Int.eq_ofNat_of_zero_le ho.1
    exact at_ints (by omega)
  have enl : (enL S.e).length ≤ 5 := by
    unfold enL
    rw [List.length_map]
    refine Nat.le_trans (List.length_filter_le ..) ?_
    simp; omega
  refine q_unp (fun d => d = stD S) (d_var rfl).n ?_
  rintro d rfl
  refine ⟨_, _, _, .inl rfl, flat3 S.c S.l S.e, rfl, g_cons g_name (g_cons g_name (g_cons g_name g_nil)), ?_⟩
  by_cases q : gI S.l o = 0
  · refine q_if (a := true) ((t_test (e_eqI (e_ixT (d_var rfl) (d_var rfl) a1 rfl) d_int)).to (decide_eq_true q)) (fun _ => ?_) fun e => nomatch e
    refine q_ret ((d_lst (kv := false) (ds := [.int o]) (a_cons (d_var rfl) a_nil) rfl (by simp)).to ?_) (.inl rfl) (.inl rfl)
    unfold optI
    rw [if_pos q]
    rfl
  · refine q_no ((t_test (e_eqI (e_ixT (d_var rfl) (d_var rfl) a1 rfl) d_int)).to (decide_eq_false q)) ?_
    refine q_asgO (d := .list ((enL S.e).map .int)) ((d_lc (l := S.e.zipIdx) (en := pairI) (fun p => decide (0 < p.1)) (fun p => .int ((p.2 : Nat) : Int)) (i_enumTI (a_consV (d_var rfl) a_nil)) (by simp; omega) fun p _ => ⟨_, _, g_tup rfl (g_cons g_name (g_cons g_name g_nil)), fun j hj => hj, t_test (d_gt (d_var rfl) d_int), fun _ => (d_var rfl).fo rfl⟩).to ?_) ?_
    · unfold enL
      rw [List.map_map]
      rfl
    refine q_if (t_test (d_lt (e_ixT (d_var rfl) (d_var rfl) a1 rfl) (e_ixT (d_var rfl) (d_var rfl) a2 rfl))) (fun w => ?_) fun w => ?_
    · refine q_app rfl (d_var rfl) rfl (by simp; omega) ?_
      refine s_ret (n_sortedD (ns := enL S.e ++ [o]) ((d_varO (d := .list ((enL S.e).map .int ++ [.int o])) rfl).to (by rw [List.map_append]; rfl)) (by simp; omega) fun ns' hp hs => ?_) (.inl rfl) (.inl rfl)
      exact opt_of_sorted h q (b := true) w.symm hp hs
    · refine q_next (s_ret (n_sortedD (ns := enL S.e) (d_varO rfl) (by omega) fun ns' hp hs => ?_) (.inl rfl) (.inl rfl))
      exact opt_of_sorted h q (b := false) w.symm (by simpa using hp) hs

theorem ok_one_less {P : Program} {w : World} {K : PySem.W.Frag} {mg : Str → Option Value} {base : Heap} {f : Addr} {fd : FuncData} (F : Fun K "one_less" "one_less" s_one_less f fd) (T : Txt mg) :
    FnOk P w K mg base CX0 1 f fd p_one_less (sp_one_less K) := by
  refine F.ok sc_one_less (fun vs H Q E h => spD_len h (by rintro ds k d ⟨ns, p, rfl, _⟩; rfl)) (fun cdv A outer s H vs Q E hr h => ⟨_, (pss_one (ps_ret (pe_op (k_add (K := K) rfl) (pe_op (k_add (K := K) rfl) (pe_slice (k_slT (K := K) rfl) (pv 0) po_none (po_some (pv 1))) (pe_tupN (pa_cons (pe_op op_sub (pe_ix (k_ix (K := K) rfl) (pv 0) (pv 1) (fun _ _ => rfl)) pe_int) pa_nil))) (pe_slice (k_slT (K := K) rfl) (pv 0) (po_some (pe_op (k_add (K := K) rfl) (pv 1) pe_int)) po_none)))), run_pure (N := n_one_less) (fun ds k d hp => ?_) h⟩)
  obtain ⟨ns, p, rfl, h0, h1, h2, rfl, rfl⟩ := hp
  obtain ⟨p, rfl⟩ := Int.eq_ofNat_of_zero_le h0
  have lx : p < ns.length := by omega
  have c1 : cutD (ns.map PyData.int) none (some (p : Int)) = (ns.take p).map .int := by rw [cutD_hi (by simp; omega), List.map_take]
  have c2 : cutD (ns.map PyData.int) (some ((p : Int) + 1)) none = (ns.drop (p + 1)).map .int := by
    have := cutD_lo (ds := ns.map PyData.int) (t := p + 1) (by simp; omega)
    rw [Int.natCast_add] at this
    exact this.trans (by rw [List.map_drop])
  refine s_ret ((e_catT (e_catT (e_sl (d_var rfl) o_none (o_some (d_var rfl))) (d_tup (a_consV (d_sub (e_ixT (d_var rfl) (d_var rfl) (at_ints lx) rfl) d_int) a_nil) (by simp)) ?_) (e_sl (d_var rfl) (o_some (e_add (d_var rfl) d_int)) o_none) ?_).to ?_) (.inr ⟨rfl, flatT _⟩) (.inl rfl)
  · rw [c1]; simp; omega
  · rw [c1, c2]; simp; omega
  · rw [c1, c2, ← lss_app lx]; simp

theorem ok_state_after {P : Program} {w : World} {K : PySem.W.Frag} {mg : Str → Option Value} {base : Heap} {f : Addr} {fd : FuncData} (F : Fun K "state_after" "state_after" s_state_after f fd) (T : Txt mg) (c_one_less : Cal P w K mg base CX0 1 "one_less" p_one_less (sp_one_less K)) :
    FnOk P w K mg base CX0 2 f fd p_state_after (sp_state_after K) := by
  refine F.ok sc_state_after (fun vs H Q E h => spD_len h (by rintro ds k d ⟨S, v, o, n, f, rfl, _⟩; rfl)) (fun cdv A outer s H vs Q E hr h => ⟨_, (pss_cons (ps_asg (pv 0) (k_tupA (K := K) (n := 3) rfl rfl (pgs_cons (pg_name (i := 3) sc_state_after.nd rfl (Or.inl rfl)) (pgs_cons (pg_name (i := 4) sc_state_after.nd rfl (Or.inl rfl)) (pgs_cons (pg_name (i := 5) sc_state_after.nd rfl (Or.inl rfl)) pgs_nil)))))
      (pss_cons (ps_if (pt_cmpR (k_eq (K := K) rfl (rUnits hr)) (pv 2) (pv 1) (nomark _)) (pss_one (ps_ret (pe_tupN (pa_cons (pe_cal c_one_less (hr.mono (by decide)) rfl pass0 (pa_cons (pv 3) (pa_cons (pv 1) pa_nil))) (pa_cons (pv 4) (pa_cons (pv 5) pa_nil)))))) pss_nil)
      (pss_one (ps_ret (pe_tupN (pa_cons (pe_cal c_one_less (hr.mono (by decide)) rfl pass0 (pa_cons (pv 3) (pa_cons (pv 1) pa_nil))) (pa_cons (pe_cal c_one_less (hr.mono (by decide)) rfl pass0 (pa_cons (pv 4) (pa_cons (pv 1) pa_nil))) (pa_cons (pe_cal c_one_less (hr.mono (by decide)) rfl pass0 (pa_cons (pv 5) (pa_cons (pv 2) pa_nil))) pa_nil)))))))), run_pure (N := n_state_after) (fun ds k d hp => ?_) h⟩)
  obtain ⟨S, v, o, n, f, rfl, h, n0, n1, h5, rfl, rfl⟩ := hp
  have ho := h.rng o (by simp)
  have el := h.el
  have ll := h.ll
  have cl := h.cl
  refine q_unp (fun d => d = stD S) (d_var rfl).n ?_
  rintro d rfl
  refine ⟨_, _, _, .inl rfl, flat3 S.c S.l S.e, rfl, g_cons g_name (g_cons g_name (g_cons g_name g_nil)), ?_⟩
  refine q_if (t_test (e_eqI (d_var rfl) (d_var rfl))) (fun w => ?_) fun w => q_next ?_
  · refine q_ret ((d_tup (a_consV (d_call (k := .v) (a_cons (d_var rfl) (a_cons (d_var rfl) a_nil)) ⟨S.c, o, rfl, ho.1, by omega, by omega, rfl, rfl⟩) (a_consV (d_var rfl) (a_consV (d_var rfl) a_nil))) (by simp)).to ?_) (.inr ⟨rfl, flat_st _⟩) (.inl rfl)
    unfold aftI
    rw [if_pos (of_decide_eq_true w)]
  · refine s_ret ((d_tup (a_consV (d_call (k := .v) (a_cons (d_var rfl) (a_cons (d_var rfl) a_nil)) ⟨S.c, o, rfl, ho.1, by omega, by omega, rfl, rfl⟩) (a_consV (d_call (k := .v) (a_cons (d_var rfl) (a_cons (d_var rfl) a_nil)) ⟨S.l, o, rfl, ho.1, by omega, by omega, rfl, rfl⟩) (a_consV (d_call (k := .v) (a_cons (d_var rfl) (a_cons (d_var rfl) a_nil)) ⟨S.e, n, rfl, n0, by omega, by omega, rfl, rfl⟩) a_nil))) (by simp)).to ?_) (.inr ⟨rfl, flat_st _⟩) (.inl rfl)
    unfold aftI
    rw [if_neg (of_decide_eq_false w)]

theorem ok_first_way {P : Program} {w : World} {K : PySem.W.Frag} {mg : Str → Option Value} {base : Heap} {f : Addr} {fd : FuncData} (F : Fun K "first_way" "first_way" s_first_way f fd) (T : Txt mg) (c_state_after : Cal P w K mg base CX0 2 "state_after" p_state_after (sp_state_after K)) (c_options : Cal P w K mg base CX0 1 "options" p_options (sp_options K)) :
    FnOk P w K mg base CX0 3 f fd p_first_way (sp_first_way K) := by
  refine F.ok sc_first_way (fun vs H Q E h => spD_len h (by rintro ds k d ⟨S, v, f, rfl, _⟩; rfl)) (fun cdv A outer s H vs Q E hr h => ⟨_, (pss_cons (ps_set (i := 2) sc_first_way.nd rfl (Or.inl rfl) (pe_lst pa_nil))
      (pss_cons (ps_for PassesOwn.never rfl (k_seq (K := K) rfl (pv 1)) (pg_name (i := 3) sc_first_way.nd rfl (Or.inl rfl)) (pss_cons (ps_set (i := 4) sc_first_way.nd rfl (Or.inl rfl) (pe_ix (k_ix (K := K) rfl) (pe_cal c_options (hr.mono (by decide)) rfl pass0 (pa_cons (pv 0) (pa_cons (pv 3) pa_nil))) pe_int (fun _ _ => rfl)))
      (pss_cons (ps_set (i := 0) sc_first_way.nd rfl (Or.inl rfl) (pe_cal c_state_after (hr.mono (by decide)) rfl pass0 (pa_cons (pv 0) (pa_cons (pv 3) (pa_cons (pv 4) pa_nil)))))
      (pss_one (ps_expr (k_bm (K := K) rfl PySem.F.plainAttrs_list PySem.F.slot_list_append PySem.F.type_list_append mt_append (pv 2) (pa_cons (pv 4) pa_nil)))))))
      (pss_one (ps_ret (pe_callTy (k_tuple (K := K) rfl) rfl T.b_tuple (by decide +kernel) (pa_cons (pv 2) pa_nil)))))), run_pure (N := n_first_way) (fun ds k d hp => ?_) h⟩)
  obtain ⟨S, v, f, rfl, h, h5, h20, rfl, rfl⟩ := hp
  refine q_asgO (d_lst (kv := false) (ds := []) a_nil rfl (by decide)) ?_
  refine q_for (i_seqTI (d_var rfl) kv_ne)
    (fun n Γ1 => ∃ t3 t4, n ≤ f.length ∧ Γ1 = [some (.v (stD (wayS S f n))), some (.v (.tuple (f.map .int))), some (.o (.list (((firstI S f).take n).map .int))), t3, t4]) ⟨none, none, by omega, ?_⟩ (fun n a Γ1 hn' hI => ?_) (fun Γ1 hI => ?_)
  · cases f <;> rfl
  · obtain ⟨t3, t4, _, rfl⟩ := hI
    have hnl : n < f.length := by have := (List.getElem?_eq_some_iff.mp hn').1; simpa using this
    have ea : a = imI f[n] := by
      rw [List.getElem?_map, List.getElem?_eq_getElem hnl] at hn'
      exact (Option.some.inj hn').symm
    subst ea
    have hw := way_st h (Nat.le_of_lt hnl)
    rw [List.drop_eq_getElem_cons hnl] at hw
    have nx := way_next (S := S) hnl
    have fx := way_first (S := S) hnl
    have hm := head_mem hw
    have fl := first_len (f := f) (S := S)
    have oe : ∃ y ys, optI (wayS S f n) f[n] = y :: ys := by
      cases q : optI (wayS S f n) f[n] with
      | nil => rw [q] at hm; cases hm
      | cons y ys => exact ⟨y, ys, rfl⟩
    obtain ⟨y, ys, ey⟩ := oe
    have yr := ((mem_opt hw).mp (by rw [ey]; simp : y ∈ optI (wayS S f n) f[n])).1
    rw [ey] at nx fx
    refine ⟨_, _, g_name, q_asg (d := .int y) (e_ixL (d_call (k := .o) (a_cons (d_var rfl) (a_cons (d_var rfl) a_nil)) ⟨wayS S f n, v, f[n], _, rfl, hw, h5, rfl, rfl⟩) d_int (by rw [ey]; exact at_ints (ns := y :: ys) (j := 0) (by simp)) rfl) ?_⟩
    refine q_asg (d_call (k := .v) (a_cons (d_var rfl) (a_cons (d_var rfl) (a_cons (d_var rfl) a_nil))) ⟨wayS S f n, v, f[n], y, _, rfl, hw, yr.1, yr.2, h5, rfl, rfl⟩) ?_
    refine s_app rfl (d_var rfl) rfl (by simp; omega) (.inl ⟨_, .inl rfl, some (.v (.int f[n])), some (.v (.int y)), by omega, ?_⟩)
    rw [nx, fx, List.map_append]
    rfl
  · obtain ⟨t3, t4, _, rfl⟩ := hI
    have fl := first_len (f := f) (S := S)
    rw [List.take_of_length_le (by simp; omega)]
    exact s_ret (d_tuple (d_varO rfl) (flatAll_ints _)) (.inr ⟨rfl, flatT _⟩) (.inl rfl)

theorem ok_check_steps {P : Program} {w : World} {K : PySem.W.Frag} {mg : Str → Option Value} {base : Heap} {f : Addr} {fd : FuncData} (F : Fun K "check_steps" "check_steps" s_check_steps f fd) (T : Txt mg) (c_require : Cal P w K mg base CX0 1 "require" p_require (sp_require K)) (c_are_allocations : Cal P w K mg base CX0 4 "are_allocations" p_are_allocations (sp_are_allocations K)) :
    FnOk P w K mg base CX0 5 f fd p_check_steps (sp_check_steps K) := by
  refine F.ok sc_check_steps (fun vs H Q E h => spD_len h (by rintro ds k d ⟨A, v, b, rfl, _⟩; rfl)) (fun cdv A outer s H vs Q E hr h => ⟨_, (pss_one (ps_expr (pe_cal c_require (hr.mono (by decide)) rfl pass0 (pa_cons (pe_cal c_are_allocations (hr.mono (by decide)) rfl pass0 (pa_cons (pv 0) (pa_cons (pe_const rfl T.k_MOST_ALLOCATIONS) pa_nil))) (pa_cons pe_str pa_nil))))), run_pure (N := n_check_steps) (fun ds k d hp => ?_) h⟩)
  obtain ⟨A, v, b, rfl, h, rfl, rfl⟩ := hp
  exact s_drop (d_call (k := .v) (d := .none) (a_cons (d_call (k := .v) (d := .bool true) (a_cons (d_var rfl) (a_cons d_int a_nil)) ⟨A, v, b, rfl, h, rfl, rfl⟩) (a_cons d_str a_nil)) ⟨_, rfl, rfl, rfl⟩) (.inr ⟨rfl, rfl, _, rfl⟩)

theorem ok_steps_of {P : Program} {w : World} {K : PySem.W.Frag} {mg : Str → Option Value} {base : Heap} {f : Addr} {fd : FuncData} (F : Fun K "steps_of" "steps_of" s_steps_of f fd) (T : Txt mg) :
    FnOk P w K mg base CX0 1 f fd p_steps_of (sp_steps_of K) := by
  refine F.ok sc_steps_of (fun vs H Q E h => spD_len h (by rintro ds k d ⟨es, h | h, _⟩ <;> subst h <;> rfl)) (fun cdv A outer s H vs Q E hr h => ⟨_, (pss_one (ps_ret (k_listZip (K := K) rfl rfl rfl T.b_list rfl T.b_zip (pa_cons (pv 0) (pa_cons (pe_slice (k_slU (K := K) rfl) (pv 0) (po_some pe_int) po_none) pa_nil))))), run_pure (N := n_steps_of) (fun ds k d hp => ?_) h⟩)
  obtain ⟨es, h, hf, h1, h2, rfl, rfl⟩ := hp
  have c1 : cutD es (some 1) none = es.drop 1 := cutD_lo (t := 1) h1
  have hf2 : flatAll (es.drop 1) = true := flatAll_mem fun d hd => flatAll_one hf (List.mem_of_mem_drop hd)
  rcases h with rfl | rfl
  · exact s_ret (e_listZip (a_consV (d_var rfl) (a_consV ((e_slU (d_var rfl) (o_some d_int) o_none).to (by rw [c1])) a_nil)) hf hf2 (.inr (by simp; omega)) (by omega)) (.inl rfl) (.inl rfl)
  · exact s_ret (e_listZipL (a_cons (d_var rfl) (a_cons ((e_slL (d_var rfl) (o_some d_int) o_none hf).to (by rw [c1])) a_nil)) hf hf2 (.inr (by simp; omega)) (by omega)) (.inl rfl) (.inl rfl)

theorem ok_decreases {P : Program} {w : World} {K : PySem.W.Frag} {mg : Str → Option Value} {base : Heap} {f : Addr} {fd : FuncData} (F : Fun K "decreases" "decreases" s_decreases f fd) (T : Txt mg) (c_check_steps : Cal P w K mg base CX0 5 "check_steps" p_check_steps (sp_check_steps K)) (c_steps_of : Cal P w K mg base CX0 1 "steps_of" p_steps_of (sp_steps_of K)) :
    FnOk P w K mg base CX0 6 f fd p_decreases (sp_decreases K) := by
  refine F.ok sc_decreases (fun vs H Q E h => spD_len h (by rintro ds k d ⟨A, v, b, rfl, _⟩; rfl)) (fun cdv A outer s H vs Q E hr h => ⟨_, (pss_cons (ps_expr (pe_cal c_check_steps (hr.mono (by decide)) rfl pass0 (pa_cons (pv 0) pa_nil)))
      (pss_cons (ps_set (i := 1) sc_decreases.nd rfl (Or.inr rfl) (pe_cal c_steps_of (hr.mono (by decide)) rfl pass0 (pa_cons (pv 0) pa_nil)))
      (pss_cons (ps_set (i := 2) sc_decreases.nd rfl (Or.inl rfl) (pe_callTy cr_rng1 rfl T.b_range (by decide +kernel) (pa_cons (pe_callB (k_len (K := K) rfl) rfl T.b_len (by decide +kernel) (pa_cons (pe_ix (k_ix (K := K) rfl) (pv 0) pe_int (fun _ _ => rfl)) pa_nil)) pa_nil)))
      (pss_one (ps_ret (pe_callTy (k_tuple (K := K) rfl) rfl T.b_tuple (by decide +kernel) (pa_cons (pe_lc rfl sc_decreases.nd (pi_rngN (pv 2)) (blkOk_by (own := [("v", 5)]) (N := n_decreases) (sc := defScope s_decreases) (by decide +kernel)) (fun _ _ _ _ _ => by exact (pg_name (i := 5) sc_decreases.nd rfl (Or.inr rfl))) (fun _ _ _ _ _ => by exact pts_nil) (fun _ _ _ _ _ => by exact (pe_callB (k_sum (K := K) rfl rfl) rfl T.b_sum (by decide +kernel) (pa_cons (pe_lc rfl sc_decreases.nd (k_seq (K := K) rfl (pv 1)) (show BlkOk n_decreases (L2.relS _ (defScope s_decreases)) _ [("before", 3), ("after", 4)] from blkOk_by (by decide +kernel)) (fun _ _ _ _ _ => by exact (k_tup (K := K) (n := 2) rfl rfl (pgs_cons (pg_name (i := 3) sc_decreases.nd rfl (Or.inl rfl)) (pgs_cons (pg_name (i := 4) sc_decreases.nd rfl (Or.inl rfl)) pgs_nil)))) (fun _ _ _ _ _ => by exact pts_nil) (fun _ _ _ _ _ => by exact (pe_callB (call_max2 rfl) rfl T.b_max (by decide +kernel) (pa_cons (pe_op op_sub (pe_ix (k_ix (K := K) rfl) (pv 3) (pv 5) (fun _ _ => rfl)) (pe_ix (k_ix (K := K) rfl) (pv 4) (pv 5) (fun _ _ => rfl))) (pa_cons pe_int pa_nil))))) pa_nil)))) pa_nil))))))), run_pure (N := n_decreases) (fun ds k d hp => ?_) h⟩)
  obtain ⟨A, v, b, rfl, h, rfl, rfl⟩ := hp
  have h1 := h.l1
  have h2 := h.l2
  have v1 := h.v1
  have v5 := h.v5
  have h0 := (h.at (i := 0) (by omega)).len
  refine q_drop (d_call (k := .v) (d := .none) (a_cons (d_var rfl) a_nil) ⟨A, v, b, rfl, h, rfl, rfl⟩) ?_
  refine q_asgO (d := .list ((prs A).map fun p => .tuple [tupD p.1, tupD p.2])) (d_call (k := .o) (a_cons (d_var rfl) a_nil) ⟨A.map tupD, .inl rfl, fl_rows A, by simpa using h1, by simp; omega, rfl, (by rw [zipTs_rows])⟩) ?_
  refine s_rngRet (m := v) ((d_lenT (e_ixT (d_var rfl) d_int (at_tup (j := 0) (by omega)) (flatT _))).to (by rw [List.length_map, h0])) (by omega) (by omega) (by show (2 : Nat) < 6; decide) (fun y => (d_tuple (d_lcI (fun i => losC A i.toNat) (i_rng1 (a_cons d_int a_nil) (by omega) (by omega)) (by simp [upI]; omega) fun i hi => ⟨_, _, g_name, fun j hj => hj, .v, ?_⟩) (flatAll_ints _)).to (y := .tuple ((losL A v.toNat).map .int)) ?_) (flatT _) (.inl rfl)
  · rw [mem_upI] at hi
    obtain ⟨j, rfl⟩ := Int.eq_ofNat_of_zero_le hi.1
    have hj : j < v.toNat := by omega
    refine (e_sumL (d_lcI (l := prs A) (en := fun p => .d (.tuple [tupD p.1, tupD p.2])) (fun p => neg0 (p.1.getD j 0, p.2.getD j 0)) (i_seqB' (d_varO rfl) (fl_prs A) (by rw [List.map_map]; rfl)) (by rw [prs_len]; omega) fun p hp => ⟨_, _, g_tupD rfl (g_cons g_name (g_cons g_name g_nil)), fun j hj => hj, .v, e_max2 (d_sub (e_ixT (d_var rfl) (d_var rfl) (at_ints (by have := h.len _ (prs_mem hp).1; omega)) rfl) (e_ixT (d_var rfl) (d_var rfl) (at_ints (by have := h.len _ (prs_mem hp).2; omega)) rfl)) d_int⟩)).to ?_
    show PyData.int _ = .int (losC A j)
    unfold losC los
    rw [prs_col, List.map_map]
    rfl
  · unfold losL
    rw [upI0]
    simp only [List.map_map]
    rfl

theorem ok_overdrawn {P : Program} {w : World} {K : PySem.W.Frag} {mg : Str → Option Value} {base : Heap} {f : Addr} {fd : FuncData} (F : Fun K "overdrawn" "overdrawn" s_overdrawn f fd) (T : Txt mg) (c_decreases : Cal P w K mg base CX0 6 "decreases" p_decreases (sp_decreases K)) :
    FnOk P w K mg base CX0 7 f fd p_overdrawn (sp_overdrawn K) := by
  refine F.ok sc_overdrawn (fun vs H Q E h => spD_len h (by rintro ds k d ⟨A, v, b, rfl, _⟩; rfl)) (fun cdv A outer s H vs Q E hr h => ⟨_, (pss_cons (ps_for PassesOwn.never rfl (k_enum (K := K) rfl rfl T.b_enumerate (pa_cons (pe_cal c_decreases (hr.mono (by decide)) rfl pass0 (pa_cons (pv 0) pa_nil)) pa_nil)) (k_tup (K := K) (n := 2) rfl rfl (pgs_cons (pg_name (i := 1) sc_overdrawn.nd rfl (Or.inl rfl)) (pgs_cons (pg_name (i := 2) sc_overdrawn.nd rfl (Or.inl rfl)) pgs_nil))) (pss_one (ps_if (pt_cmpR op_gt (pv 2) (pe_ix (k_ix (K := K) rfl) (pe_ix (k_ix (K := K) rfl) (pv 0) pe_int (fun _ _ => rfl)) (pv 1) (fun _ _ => rfl)) (nomark _)) (pss_one (ps_ret (pv 1))) pss_nil)))
      (pss_one (ps_ret pe_non))), run_pure (N := n_overdrawn) (fun ds k d hp => ?_) h⟩)
  obtain ⟨A, v, b, rfl, h, rfl, rfl⟩ := hp
  have h1 := h.l1
  have v1 := h.v1
  have v5 := h.v5
  have h0 := (h.at (i := 0) (by omega)).len
  refine q_for (i_enumTI (ns := losL A v.toNat) (a_consV (d_call (k := .v) (a_cons (d_var rfl) a_nil) ⟨A, v, b, rfl, h, rfl, rfl⟩) a_nil))
    (fun n Γ1 => ∃ t1 t2, Γ1 = [some (.v (.tuple (A.map tupD))), t1, t2] ∧ ovr A n = none) ⟨_, _, rfl, rfl⟩ (fun n a Γ1 hn' hI => ?_) (fun Γ1 hI => ?_)
  · obtain ⟨t1, t2, rfl, hq⟩ := hI
    have hn : n < v.toNat := by have := (List.getElem?_eq_some_iff.mp hn').1; simpa [losL] using this
    have ea : a = .t [.d (.int (n : Nat)), .d (.int (losC A n))] := by
      rw [List.getElem?_map, List.getElem?_zipIdx, List.getElem?_eq_getElem (by simpa [losL] using hn)] at hn'
      have := (Option.some.inj hn').symm
      rw [this]
      simp [pairI, losL]
    subst ea
    refine ⟨_, _, g_tup rfl (g_cons g_name (g_cons g_name g_nil)), s_if (t_test (d_gt (d_var rfl) (e_ixT (e_ixT (d_var rfl) d_int (at_tup (j := 0) (by omega)) (flatT _)) (d_var rfl) (at_ints (by omega)) rfl))) (fun w => ?_) fun w => s_next (.inl ⟨_, .inl rfl, _, _, rfl, ?_⟩)⟩
    · have w' := of_decide_eq_true w
      have hf : ovr A (n + 1) = some n := by rw [ovr_succ, hq, if_pos w']; rfl
      exact s_ret (d_var rfl) (.inr ⟨rfl, rfl⟩) (.inr (.inr ⟨_, _, rfl, .inl (by rw [ovr_mono (by omega) hf]; rfl)⟩))
    · rw [ovr_succ, hq, if_neg (of_decide_eq_false w)]
      rfl
  · obtain ⟨t1, t2, rfl, hq⟩ := hI
    refine s_ret d_non (.inr ⟨rfl, rfl⟩) (.inl ?_)
    have : ovr A v.toNat = none := by simpa [losL] using hq
    rw [this]
    rfl

theorem ok_calm_change {P : Program} {w : World} {K : PySem.W.Frag} {mg : Str → Option Value} {base : Heap} {f : Addr} {fd : FuncData} (F : Fun K "calm_change" "calm_change" s_calm_change f fd) (T : Txt mg) (c_first_state : Cal P w K mg base CX0 6 "first_state" p_first_state (sp_first_state K)) (c_first_way : Cal P w K mg base CX0 3 "first_way" p_first_way (sp_first_way K)) (c_allocation_of : Cal P w K mg base CX0 5 "allocation_of" p_allocation_of (sp_allocation_of K)) :
    FnOk P w K mg base CX0 7 f fd p_calm_change (sp_calm_change K) := by
  refine F.ok sc_calm_change (fun vs H Q E h => spD_len h (by rintro ds k d ⟨as, s, f, v, rfl, _⟩; rfl)) (fun cdv A outer s H vs Q E hr h => ⟨_, (pss_cons (ps_asg (pe_cal c_first_state (hr.mono (by decide)) rfl pass0 (pa_cons (pv 0) (pa_cons (pv 2) pa_nil))) (k_tupA (K := K) (n := 3) rfl rfl (pgs_cons (pg_name (i := 3) sc_calm_change.nd rfl (Or.inl rfl)) (pgs_cons (pg_name (i := 4) sc_calm_change.nd rfl (Or.inl rfl)) (pgs_cons (pg_name (i := 5) sc_calm_change.nd rfl (Or.inl rfl)) pgs_nil)))))
      (pss_cons (ps_setLc (i := 6) rfl sc_calm_change.nd rfl rfl (sw_true rfl rfl rfl (by decide +kernel)) (k_enum (K := K) rfl rfl T.b_enumerate (pa_cons (pv 2) pa_nil)) (blkOk_by (own := [("bucket", 7), ("variant", 8)]) (N := n_calm_change) (sc := defScope s_calm_change) (by decide +kernel)) (fun _ _ _ _ _ => by exact (k_tup (K := K) (n := 2) rfl rfl (pgs_cons (pg_name (i := 7) sc_calm_change.nd rfl (Or.inl rfl)) (pgs_cons (pg_name (i := 8) sc_calm_change.nd rfl (Or.inl rfl)) pgs_nil)))) (fun _ _ _ _ _ => by exact (pts_one (pt_cmpR (k_eq (K := K) rfl (rUnits hr)) (pv 8) (pe_ix (k_ix (K := K) rfl) (pv 1) (pv 7) (fun _ _ => rfl)) (nomark _)))) (fun _ _ _ _ _ => by exact (pv 7)))
      (pss_cons (ps_set (i := 9) sc_calm_change.nd rfl (Or.inl rfl) (pe_callTy (k_tuple (K := K) rfl) rfl T.b_tuple (by decide +kernel) (pa_cons (pe_lc rfl sc_calm_change.nd (k_seq (K := K) rfl (pv 6)) (blkOk_by (own := [("bucket", 7)]) (N := n_calm_change) (sc := defScope s_calm_change) (by decide +kernel)) (fun _ _ _ _ _ => by exact (pg_name (i := 7) sc_calm_change.nd rfl (Or.inl rfl))) (fun _ _ _ _ _ => by exact pts_nil) (fun _ _ _ _ _ => by exact (pe_ix (k_ix (K := K) rfl) (pv 2) (pv 7) (fun _ _ => rfl)))) pa_nil)))
      (pss_cons (ps_set (i := 10) sc_calm_change.nd rfl (Or.inl rfl) (pe_cal c_first_way (hr.mono (by decide)) rfl pass0 (pa_cons (pe_tupN (pa_cons (pe_cal c_allocation_of (hr.mono (by decide)) rfl pass0 (pa_cons (pv 9) (pa_cons (pe_callB (k_len (K := K) rfl) rfl T.b_len (by decide +kernel) (pa_cons (pv 0) pa_nil)) pa_nil))) (pa_cons (pv 4) (pa_cons (pv 5) pa_nil)))) (pa_cons (pv 9) pa_nil))))
      (pss_cons (ps_set (i := 11) sc_calm_change.nd rfl (Or.inl rfl) (pe_callTy (k_list (K := K) rfl) rfl T.b_list (by decide +kernel) (pa_cons (pv 2) pa_nil)))
      (pss_cons (ps_for PassesOwn.never rfl (k_zipM (K := K) (t1 := true) (t2 := false) rfl rfl T.b_zip (pa_cons (pv 6) (pa_cons (pv 10) pa_nil))) (k_tup (K := K) (n := 2) rfl rfl (pgs_cons (pg_name (i := 7) sc_calm_change.nd rfl (Or.inl rfl)) (pgs_cons (pg_name (i := 8) sc_calm_change.nd rfl (Or.inl rfl)) pgs_nil))) (pss_one (ps_asg (pv 8) (pg_sub (pv 11) (pv 7) set_list))))
      (pss_one (ps_ret (pe_callTy (k_tuple (K := K) rfl) rfl T.b_tuple (by decide +kernel) (pa_cons (pv 11) pa_nil)))))))))), run_pure (N := n_calm_change) (fun ds k d hp => ?_) h⟩)
  obtain ⟨as, s, f, v, rfl, hf, ha, hl, v1, v5, ok, rfl, rfl⟩ := hp
  have l20 := hf.len
  have al := ha.len
  have st := st0 hf ha (by omega)
  have fs := frS_st hf ha (by omega) ok
  have fo : (frO f s).length ≤ 20 := Nat.le_trans fr_len l20
  have e1 : frN 0 f s = (List.range f.length).filter fun i => decide (f.getD i 0 = s.getD i 0) := by rw [frN_is 0 hl]; simp
  have e2 : (frN 0 f s).map (fun i => f.getD i 0) = frO f s := frN_olds (pre := [])
  have lN : (frN 0 f s).length = (frO f s).length := frN_len
  have hh : (firstI (frS v f s as) (frO f s)).length = (frO f s).length := first_len
  have e3 := frN_mrg (f := f) (s := s) (h := firstI (frS v f s as) (frO f s)) [] hl hh
  obtain ⟨h, eh⟩ : ∃ h, h = firstI (frS v f s as) (frO f s) := ⟨_, rfl⟩
  obtain ⟨N, eN⟩ : ∃ N, N = frN 0 f s := ⟨_, rfl⟩
  rw [← eh] at e3 hh
  have e3' : (N.zip h).foldl (fun (l : List Int) p => l.set p.1 p.2) f = nxtC v s f as := by
    have : nxtC v s f as = mrg f s h := by rw [eh]; rfl
    rw [this, eN]
    exact e3
  have ltN : ∀ i ∈ N, i < f.length := fun i hi => by have := frN_lt (eN ▸ hi); omega
  rw [← eN] at lN e1 e2
  refine q_unp (fun d => d = .tuple [.tuple ((countsI f v).map .int), .tuple ((lvI (countsI f v) as).map .int), .tuple ((enI (countsI f v) as).map .int)]) (d_call (k := .v) (a_cons (d_var rfl) (a_cons (d_var rfl) a_nil)) ⟨as, f, v, rfl, hf, ha, v1, v5, rfl, rfl⟩).n ?_
  rintro d rfl
  refine ⟨_, _, _, .inl rfl, flat3 _ _ _, rfl, g_cons g_name (g_cons g_name (g_cons g_name g_nil)), ?_⟩
  refine q_asgO (d := .list ((N.map fun i => ((i : Nat) : Int)).map .int)) (Ev.to (d_lc (l := f.zipIdx) (en := pairI) (fun p => decide (p.1 = s.getD p.2 0)) (fun p => .int ((p.2 : Nat) : Int)) (i_enumTI (a_consV (d_var rfl) a_nil)) (by simp; omega) fun p hp => ⟨_, _, g_tup rfl (g_cons g_name (g_cons g_name g_nil)), fun j hj => hj, t_test (e_eqI (d_var rfl) (e_ixT (d_var rfl) (d_var rfl) (at_ints (by have := List.mem_zipIdx hp; simp at this; omega)) rfl)), fun _ => (d_var rfl).fo rfl⟩) ?_) ?_
  · rw [e1, List.map_map]
    have : f.zipIdx = (List.range f.length).map fun i => (f.getD i 0, i) := by
      refine List.ext_getElem (by simp) fun i h1 h2 => ?_
      have : i < f.length := by simpa using h1
      simp [List.getD_eq_getElem?_getD, List.getElem?_eq_getElem this]
    rw [this, List.filter_map, List.map_map]
    rfl
  refine s_freeze (n := 6) rfl ?_
  refine q_asg (d := .tuple ((frO f s).map .int)) (Ev.to (d_tuple (d_lcA (l := N) (en := fun i => Im.d (.int ((i : Nat) : Int))) (fun i => .int (f.getD i 0)) (i_seqL' (d_var rfl) kv_ne (by rw [List.map_map, List.map_map]; rfl)) (by omega) fun i hi => ⟨_, _, g_name, fun j hj => hj, (e_ixT (d_var rfl) (d_var rfl) (at_ints (ltN i hi)) rfl).fo rfl⟩) (by rw [show (fun i => PyData.int (f.getD i 0)) = PyData.int ∘ fun i => f.getD i 0 from rfl, ← List.map_map]; exact flatAll_ints _)) (by rw [← e2, List.map_map]; rfl)) ?_
  have asO : Asg (frO f s) v := ⟨fo, fun n hn => hf.rng n (fr_mem hn)⟩
  refine q_asg (d := .tuple (h.map .int)) (d_call (k := .v) (a_cons (d_tup (a_consV (d_call (k := .v) (a_cons (d_var rfl) (a_cons (d_lenT (d_var rfl)) a_nil)) ⟨frO f s, v, by rw [List.length_map, al], asO, v1, v5, rfl, rfl⟩) (a_consV (d_var rfl) (a_consV (d_var rfl) a_nil))) (by simp)) (a_cons (d_var rfl) a_nil)) ⟨frS v f s as, v, frO f s, rfl, fs, v5, fo, rfl, by rw [eh]⟩) ?_
  refine q_asgO (e_listT (d_var rfl) (flatAll_ints f)) ?_
  refine q_for (i_zipLT (ds := (N.map fun i => ((i : Nat) : Int)).map .int) (es := h.map .int) (d_var rfl) (d_var rfl) kv_ne (by simp; omega))
    (fun n Γ1 => ∃ t7 t8 lf, Γ1 = [some (.v (.tuple (as.map .int))), some (.v (.tuple (s.map .int))), some (.v (.tuple (f.map .int))), some (.v (.tuple ((countsI f v).map .int))), some (.v (.tuple ((lvI (countsI f v) as).map .int))), some (.v (.tuple ((enI (countsI f v) as).map .int))), some (.v (.list ((N.map fun i => ((i : Nat) : Int)).map .int))), t7, t8, some (.v (.tuple ((frO f s).map .int))), some (.v (.tuple (h.map .int))), some (.o (.list (lf.map .int)))] ∧ lf = ((N.zip h).take n).foldl (fun (l : List Int) p => l.set p.1 p.2) f) ⟨_, _, _, rfl, rfl⟩ (fun n a Γ1 hn' hI => ?_) (fun Γ1 hI => ?_)
  · obtain ⟨t7, t8, lf, rfl, hlf⟩ := hI
    have lz : (zipD ((N.map fun i => ((i : Nat) : Int)).map .int) (h.map .int)).length = h.length := by simp [zipD]; omega
    have hn : n < h.length := by have := (List.getElem?_eq_some_iff.mp hn').1; omega
    have hnN : n < N.length := by omega
    have ea : a = .t [.d (.int ((N.getD n 0 : Nat) : Int)), .d (.int (h.getD n 0))] := by
      unfold zipD at hn'
      rw [List.getElem?_map, List.getElem?_eq_getElem (by simp; omega)] at hn'
      have := (Option.some.inj hn').symm
      rw [this]
      simp [List.getD_eq_getElem?_getD, List.getElem?_eq_getElem hn, List.getElem?_eq_getElem hnN]
    subst ea
    have tk : (N.zip h).take (n + 1) = (N.zip h).take n ++ [(N.getD n 0, h.getD n 0)] := by
      rw [List.take_add_one, List.getElem?_eq_getElem (by simp; omega)]
      simp [List.getD_eq_getElem?_getD, List.getElem?_eq_getElem hn, List.getElem?_eq_getElem hnN]
    have lset : ∀ (L : List (Nat × Int)) (g : List Int), (L.foldl (fun (l : List Int) p => l.set p.1 p.2) g).length = g.length := fun L => by
      induction L with
      | nil => intro g; rfl
      | cons p L ih => intro g; rw [List.foldl_cons, ih, List.length_set]
    have ll : lf.length = f.length := by rw [hlf, lset]
    have hN : N.getD n 0 < f.length := ltN _ (by rw [List.getD_eq_getElem?_getD, List.getElem?_eq_getElem hnN]; exact List.getElem_mem hnN)
    refine ⟨_, _, g_tup rfl (g_cons g_name (g_cons g_name g_nil)), s_setII rfl (d_var rfl) (d_var rfl) (m := N.getD n 0) rfl (by omega) (.inl ⟨_, .inl rfl, some (.v (.int ((N.getD n 0 : Nat) : Int))), some (.v (.int (h.getD n 0))), _, rfl, ?_⟩)⟩
    rw [tk, List.foldl_append, ← hlf]
    rfl
  · obtain ⟨t7, t8, lf, rfl, hlf⟩ := hI
    have lz : (zipD ((N.map fun i => ((i : Nat) : Int)).map .int) (h.map .int)).length = (N.zip h).length := by simp [zipD]
    rw [lz, List.take_length, e3'] at hlf
    subst hlf
    exact s_ret (d_tuple (d_varO rfl) (flatAll_ints _)) (.inr ⟨rfl, flatT _⟩) (.inl rfl)

theorem ok_calm_history {P : Program} {w : World} {K : PySem.W.Frag} {mg : Str → Option Value} {base : Heap} {f : Addr} {fd : FuncData} (F : Fun K "calm_history" "calm_history" s_calm_history f fd) (T : Txt mg) (c_overdrawn : Cal P w K mg base CX0 7 "overdrawn" p_overdrawn (sp_overdrawn K)) (c_ascending : Cal P w K mg base CX0 2 "ascending" p_ascending (sp_ascendingR K)) (c_calm_change : Cal P w K mg base CX0 7 "calm_change" p_calm_change (sp_calm_change K)) :
    FnOk P w K mg base CX0 8 f fd p_calm_history (sp_calm_history K) := by
  refine F.ok sc_calm_history (fun vs H Q E h => spD_len h (by rintro ds k d ⟨A, v, b, rfl, _⟩; rfl)) (fun cdv A outer s H vs Q E hr h => ⟨_, (pss_cons (ps_if (pt_cmpR op_notN (pe_cal c_overdrawn (hr.mono (by decide)) rfl pass0 (pa_cons (pv 0) pa_nil)) pe_non (nomark _)) (pss_one (ps_ret pe_non)) pss_nil)
      (pss_cons (ps_set (i := 1) sc_calm_history.nd rfl (Or.inl rfl) (pe_lst (pa_cons (pe_cal c_ascending (hr.mono (by decide)) rfl pass0 (pa_cons (pe_ix (k_ix (K := K) rfl) (pv 0) pe_int (fun _ _ => rfl)) pa_nil)) pa_nil)))
      (pss_cons (ps_for PassesOwn.never rfl (k_seq (K := K) rfl (pe_slice (k_slT (K := K) rfl) (pv 0) (po_some pe_int) po_none)) (pg_name (i := 2) sc_calm_history.nd rfl (Or.inl rfl)) (pss_one (ps_expr (k_bm (K := K) rfl PySem.F.plainAttrs_list PySem.F.slot_list_append PySem.F.type_list_append mt_append (pv 1) (pa_cons (pe_cal c_calm_change (hr.mono (by decide)) rfl pass0 (pa_cons (pv 2) (pa_cons (pe_ix (k_ix (K := K) rfl) (pv 1) pe_int (fun _ _ => rfl)) (pa_cons (pe_ix (k_ix (K := K) rfl) (pv 1) (pe_un un_neg pe_int) (fun _ _ => rfl)) pa_nil)))) pa_nil)))))
      (pss_one (ps_ret (pe_callTy (k_tuple (K := K) rfl) rfl T.b_tuple (by decide +kernel) (pa_cons (pv 1) pa_nil))))))), run_pure (N := n_calm_history) (fun ds k d hp => ?_) h⟩)
  obtain ⟨A, v, b, rfl, h, rfl, rfl⟩ := hp
  have h1 := h.l1
  have h2 := h.l2
  have v1 := h.v1
  have v5 := h.v5
  have b20 := h.b20
  obtain ⟨s1, s2, s3⟩ := stA_ok h
  cases no : ovr A v.toNat with
  | some i =>
    refine q_if (a := true) ((t_test (d_notN (d_call (k := .v) (d := natD (ovr A v.toNat)) (a_cons (d_var rfl) a_nil) ⟨A, v, b, rfl, h, rfl, rfl⟩))).to (by rw [no]; rfl)) (fun _ => ?_) fun e => nomatch e
    refine q_ret d_non (.inr ⟨rfl, rfl⟩) (.inl ?_)
    unfold calmD
    rw [no]
    rfl
  | none =>
    refine q_no ((t_test (d_notN (d_call (k := .v) (d := natD (ovr A v.toNat)) (a_cons (d_var rfl) a_nil) ⟨A, v, b, rfl, h, rfl, rfl⟩))).to (by rw [no]; rfl)) ?_
    refine q_asgO (d := .list ((hisC v A (stA v A) 0).map tupD)) (d_lst (kv := false) (a_cons (d_call (k := .v) (a_cons (e_ixT (d_var rfl) d_int (at_tup (j := 0) (by omega)) (flatT _)) a_nil) ⟨A.getD 0 [], v, b, rfl, h.at (by omega), v1, by omega, by omega, rfl, rfl⟩) a_nil) (by simp [flatAll, flatD, hisC, rowC, stA, tupD, flatAll_ints]) (by simp [hisC])) ?_
    have c1 : cutD (A.map tupD) (some 1) none = (A.drop 1).map tupD := by rw [List.map_drop]; exact cutD_lo (t := 1) (by simpa using h1)
    have atH : ∀ n, ((hisC v A (stA v A) n).map tupD).length = n + 1 := fun n => by simp [hisC]
    refine q_for (items := (A.drop 1).map tupI) (i_rowsT ((e_sl (d_var rfl) (o_some d_int) o_none).to (by rw [c1])) kv_ne)
      (fun n Γ1 => ∃ t2, Γ1 = [some (.v (.tuple (A.map tupD))), some (.o (.list ((hisC v A (stA v A) n).map tupD))), t2]) ⟨_, rfl⟩ (fun n a Γ1 hn' hI => ?_) (fun Γ1 hI => ?_)
    · obtain ⟨t2, rfl⟩ := hI
      have hn : n + 1 < A.length := by have := (List.getElem?_eq_some_iff.mp hn').1; simp at this; omega
      have ea : a = .d (tupD (A.getD (n + 1) [])) := by
        rw [List.getElem?_map, List.getElem?_drop, Nat.add_comm 1 n, List.getElem?_eq_getElem hn] at hn'
        rw [List.getD_eq_getElem?_getD, List.getElem?_eq_getElem hn]
        exact (Option.some.inj hn').symm
      subst ea
      obtain ⟨⟨r1, r2, r3⟩, ok⟩ := rowC_ok h s1 s2 s3 no (n := n) (by omega)
      refine ⟨_, _, g_name, s_app rfl (d := tupD (rowC v A (stA v A) (n + 1))) (d_call (k := .v) (a_cons (d_var rfl) (a_cons (e_ixL (d := tupD (stA v A)) (d_varO rfl) d_int ?_ (flatT _)) (a_cons (e_ixL (d := tupD (rowC v A (stA v A) n)) (d_varO rfl) (e_neg d_int) ?_ (flatT _)) a_nil))) ⟨A.getD (n + 1) [], stA v A, rowC v A (stA v A) n, v, rfl, r1, by rw [r2]; exact h.at hn, by omega, v1, v5, ok hn, rfl, rfl⟩) (flatT _) (by rw [atH]; omega) (.inl ⟨_, .inl rfl, some (.v (tupD (A.getD (n + 1) []))), ?_⟩)⟩
      · rw [show (0 : Int) = ((0 : Nat) : Int) from rfl, at_tup (by simp [hisC])]
        simp [hisC, List.getD_eq_getElem?_getD, rowC]
      · rw [at_tupL (by simp [hisC])]
        simp [hisC, List.getD_eq_getElem?_getD]
      · unfold hisC
        rw [List.range_succ (n := n + 1), List.map_append, List.map_append]
        rfl
    · obtain ⟨t2, rfl⟩ := hI
      have e : ((A.drop 1).map tupI).length = A.length - 1 := by simp
      rw [e]
      refine s_ret (d_tuple (d_varO rfl) (fl_rows _)) (.inr ⟨rfl, fl_rows _⟩) (.inl ?_)
      unfold calmD
      rw [if_pos no]
      rfl

theorem ok__law_stream {P : Program} {w : World} {K : PySem.W.Frag} {mg : Str → Option Value} {base : Heap} {f : Addr} {fd : FuncData} (F : Fun K "_law_stream" "_law_stream" s__law_stream f fd) (T : Txt mg) :
    FnOk P w K mg base CX0 1 f fd p__law_stream (sp__law_stream K) := by
  refine F.ok sc__law_stream (fun vs H Q E h => by obtain ⟨a, ns, rfl, _⟩ := h; rfl) (fun cdv A outer s H vs Q E hr h => ⟨_, (pss_one (ps_ret (pe_lst (pa_cons (pe_callTy (k_list (K := K) rfl) rfl T.b_list (by decide +kernel) (pa_cons (pv 0) pa_nil)) (pa_cons pe_int (pa_cons pe_int pa_nil)))))), ?_⟩)
  obtain ⟨a, ns, rfl, hS, hl, k⟩ := h
  refine ⟨_, rfl, a, _, rfl, .inl hS, fun l hl => ⟨(by show 3 ≤ sizeLine; decide), fun st hst => ?_⟩⟩
  have nls : l ≠ st := fun z => by rw [z, upd_same] at hst; cases hst
  have hs0 : H st = none := by rw [← upd_ne (H := H) (o := .lst (ns.map V.int)) nls.symm]; exact hst
  refine k st l _ (fun b o z => ?_) hs0 ⟨ns, 0, 0, upd_same, by rw [upd_ne nls, upd_same], nls, by decide⟩
  rw [upd_ne (ne_of_none z hs0), upd_ne (ne_of_none z hl)]
  exact z

theorem ok__law_next {P : Program} {w : World} {K : PySem.W.Frag} {mg : Str → Option Value} {base : Heap} {f : Addr} {fd : FuncData} (F : Fun K "_law_next" "_law_next" s__law_next f fd) (T : Txt mg) :
    FnOk P w K mg base CX0 1 f fd p__law_next (sp__law_next K) := by
  refine F.ok sc__law_next (fun vs H Q E h => spS_len h (by rintro ds k P ⟨m, rfl, _⟩; rfl)) (fun cdv A outer s H vs Q E hr h => ⟨_, (Evl.pss_cut (ps_if (pt_cmpR (k_eq (K := K) rfl (rUnits hr)) (pe_ix (k_ix (K := K) rfl) (pv 0) pe_int (fun _ _ => rfl)) pe_int (nomark _)) (pss_cons (ps_set (i := 2) sc__law_next.nd rfl (Or.inl rfl) (pe_ix (k_ix (K := K) rfl) (pv 0) pe_int (fun _ _ => rfl)))
      (pss_cons (ps_set (i := 3) sc__law_next.nd rfl (Or.inl rfl) (pe_op (k_add (K := K) rfl) pe_int (pv 2)))
      (Evl.pss_cut (ps_if (pt_cmpR op_lt (pv 2) (pe_callB (k_len (K := K) rfl) rfl T.b_len (by decide +kernel) (pa_cons (pe_ix (k_ix (K := K) rfl) (pv 0) pe_int (fun _ _ => rfl)) pa_nil)) (nomark _)) (pss_one (ps_set (i := 3) sc__law_next.nd rfl (Or.inl rfl) (pe_callB call_abs rfl T.b_abs (by decide +kernel) (pa_cons (pe_ix (k_ix (K := K) rfl) (pe_ix (k_ix (K := K) rfl) (pv 0) pe_int (fun _ _ => rfl)) (pv 2) (fun _ _ => rfl)) pa_nil)))) pss_nil)
      (Evl.pss_cut (ps_if (pt_cmpR op_lt (pv 3) (pe_op op_pow pe_int pe_int) (nomark _)) (pss_cons (ps_set (i := 3) sc__law_next.nd rfl (Or.inl rfl) (pe_op op_mod (pe_callTy call_int1 rfl T.b_int (by decide +kernel) (pa_cons (pe_op (k_add (K := K) rfl) (pe_op (k_add (K := K) rfl) (pe_op op_mulA (pv 3) pe_int) (pe_op op_mulA (pv 2) pe_int)) pe_int) pa_nil)) pe_int))
      (pss_one (ps_set (i := 3) sc__law_next.nd rfl (Or.inl rfl) (pe_op (k_add (K := K) rfl) (pe_op op_mulA (pe_op op_mod (pe_callTy call_int1 rfl T.b_int (by decide +kernel) (pa_cons (pe_op (k_add (K := K) rfl) (pe_op op_mulA (pv 3) pe_int) pe_int) pa_nil)) pe_int) pe_int) (pv 3))))) pss_nil)
      (pss_cons (ps_asg (pv 3) (pg_sub (pv 0) pe_int set_list))
      (pss_one (ps_asg (pe_op (k_add (K := K) rfl) (pv 2) pe_int) (pg_sub (pv 0) pe_int set_list)))))))) pss_nil)
      (pss_cons (ps_set (i := 4) sc__law_next.nd rfl (Or.inl rfl) (pe_op op_mod (pe_callTy call_int1 rfl T.b_int (by decide +kernel) (pa_cons (pe_ix (k_ix (K := K) rfl) (pv 0) pe_int (fun _ _ => rfl)) pa_nil)) (pv 1)))
      (pss_cons (ps_asg (pe_op op_fdiv (pe_ix (k_ix (K := K) rfl) (pv 0) pe_int (fun _ _ => rfl)) (pv 1)) (pg_sub (pv 0) pe_int set_list))
      (pss_one (ps_ret (pv 4)))))), ?_⟩)
  obtain ⟨st, l, vs', ds, kd, P', rfl, hst, hb, ⟨m, rfl, hm, hm2, rfl, rfl⟩, hq⟩ := h
  obtain ⟨mv, rfl, bm⟩ := hb.one
  have em := bm.int'
  subst em
  obtain ⟨ns, x, k, h1, h2, h3, h4⟩ := hst
  -- behind the first if the stream's cell is any int
  refine ⟨fun σ H1 => ∃ (a b c : Option V) (x k : Int), σ = [some (.ref st), some (.int m), a, b, c] ∧ H1 st = some (.lst [.ref l, .int x, .int k]) ∧ H1 l = some (.lst (ns.map V.int)) ∧ 0 ≤ k ∧ ∀ a o, a ≠ st → H a = some o → H1 a = some o, ?_, ?_⟩
  · refine ⟨_, rfl, .inl ⟨st, _, 1, .int x, rfl, rfl, .inl (.inl h1), rfl, .inl ⟨rfl, _, rfl, ?_⟩⟩⟩
    refine ite2 (fun _ => ?_) (fun _ => ⟨_, _, _, x, k, rfl, h1, h2, h4, fun _ _ _ z => z⟩)
    refine ⟨_, rfl, .inl ⟨st, _, 2, .int k, rfl, rfl, .inl (.inl h1), rfl, ?_⟩⟩
    refine ⟨_, rfl, .inl ⟨7, k, rfl, rfl, ?_⟩⟩
    refine ⟨fun σ H1 => H1 = H ∧ ∃ z : Int, σ = [some (.ref st), some (.int m), some (.int k), some (.int z), none], ?_, ?_⟩
    · refine ⟨_, rfl, _, rfl, .inl ⟨st, _, 0, .ref l, rfl, rfl, .inl (.inl h1), rfl, ⟨l, _, rfl, .inl (.inl (.inl h2)), k, _, rfl, rfl, _, rfl, ?_⟩⟩⟩
      refine ite2 (fun hk => ?_) (fun _ => ⟨rfl, _, rfl⟩)
      have hk' : k < (ns.length : Int) := by simpa using of_decide_eq_true hk
      obtain ⟨j, rfl⟩ := Int.eq_ofNat_of_zero_le h4
      have hj : j < ns.length := by omega
      have hat : atI (ns.map V.int) (j : Int) = some (.int ns[j]) := atI_nat (by simp [hj])
      exact ⟨_, rfl, .inl ⟨st, _, 0, .ref l, rfl, rfl, .inl (.inl h1), rfl, _, rfl, .inl ⟨l, _, (j : Int), _, rfl, rfl, .inl (.inl h2), hat, _, rfl, rfl, _, rfl⟩⟩⟩
    · rintro σ H1 ⟨rfl, z, rfl⟩
      refine ⟨fun σ H1' => H1' = H1 ∧ ∃ z : Int, σ = [some (.ref st), some (.int m), some (.int k), some (.int z), none], ?_, ?_⟩
      · refine ⟨_, rfl, 10, 18, rfl, rfl, ⟨by decide, by decide, by decide⟩, z, _, rfl, rfl, _, rfl, ?_⟩
        refine ite2 (fun _ => ?_) (fun _ => ⟨rfl, _, rfl⟩)
        refine ⟨_, rfl, .inl ⟨z, 48271, rfl, rfl, .inr ⟨by decide, by decide⟩, _, rfl, .inl ⟨k, 69621, rfl, rfl, .inr ⟨by decide, by decide⟩, .inl ⟨_, _, rfl, rfl, .inl ⟨_, _, rfl, rfl, .inl ⟨_, rfl, _, _, rfl, rfl, (by show (0 : Int) < 2147483647; decide), ?_⟩⟩⟩⟩⟩⟩
        refine ⟨_, rfl, .inl ⟨_, 16807, rfl, rfl, .inr ⟨by decide, by decide⟩, .inl ⟨_, _, rfl, rfl, .inl ⟨_, rfl, _, _, rfl, rfl, (by show (0 : Int) < 2147483647; decide), .inl ⟨_, 65537, rfl, rfl, .inr ⟨by decide, by decide⟩, _, rfl, .inl ⟨_, _, rfl, rfl, rfl, _, rfl⟩⟩⟩⟩⟩⟩
      · rintro σ H1' ⟨rfl, z, rfl⟩
        refine ⟨_, rfl, _, rfl, st, _, 1, 1, rfl, rfl, h1, rfl, ?_⟩
        refine ⟨_, rfl, .inl ⟨k, 1, rfl, rfl, _, rfl, st, _, 2, 2, rfl, rfl, upd_same, rfl, ?_⟩⟩
        refine ⟨_, _, _, z, k + 1, rfl, upd_same, by rw [upd_ne h3, upd_ne h3]; exact h2, by omega, fun a o na ha => by rw [upd_ne na, upd_ne na]; exact ha⟩
  · rintro σ H1 ⟨a, b, c, x, k, rfl, g1, g2, g4, g5⟩
    refine ⟨_, rfl, .inl ⟨st, _, 1, .int x, rfl, rfl, .inl (.inl g1), rfl, .inl ⟨x, rfl, _, rfl, x, m, rfl, rfl, hm, ?_⟩⟩⟩
    refine ⟨_, rfl, .inl ⟨st, _, 1, .int x, rfl, rfl, .inl (.inl g1), rfl, _, rfl, x, m, rfl, rfl, ⟨hm, hm2⟩, _, rfl, st, _, 1, 1, rfl, rfl, g1, rfl, ?_⟩⟩
    refine ⟨_, rfl, hq _ (.int (x % m)) _ ⟨x % m, rfl, Int.emod_nonneg _ (by omega), Int.emod_lt_of_pos _ hm⟩ ⟨fun a o na ha => ?_, fun _ st' l' e => ?_⟩ ⟨rfl, .int _⟩⟩
    · have : a ≠ st := na st l rfl
      rw [upd_ne this]
      exact g5 a o this ha
    · cases e
      exact Str1.put g2 h3 g4

theorem ok__law_is_integer {P : Program} {w : World} {K : PySem.W.Frag} {mg : Str → Option Value} {base : Heap} {f : Addr} {fd : FuncData} (F : Fun K "_law_is_integer" "_law_is_integer" s__law_is_integer f fd) (T : Txt mg) :
    FnOk P w K mg base CX0 1 f fd p__law_is_integer (sp__law_is_integer K) := by
  refine F.ok sc__law_is_integer (fun vs H Q E h => spD_len h (by rintro ds k d ⟨x, rfl, _⟩; rfl)) (fun cdv A outer s H vs Q E hr h => ⟨_, (pss_one (ps_ret (pe_and (pe_callB (k_isi (K := K) rfl) rfl T.b_isinstance (by decide +kernel) (pa_cons (pv 0) (pa_cons (pe_ty (n := "int") rfl T.b_int (by decide +kernel)) pa_nil))) (pe_one (pe_not (pe_callB (k_isi (K := K) rfl) rfl T.b_isinstance (by decide +kernel) (pa_cons (pv 0) (pa_cons (pe_ty (n := "bool") rfl T.b_bool (by decide +kernel)) pa_nil)))))))), run_pure (N := n__law_is_integer) (fun ds k d hp => ?_) h⟩)
  obtain ⟨x, rfl, rfl, rfl⟩ := hp
  refine s_ret ((d_andV (e_isi (d_var rfl) (kit_int x)) fun _ => d_notV (e_isi (d_var rfl) (kit_bool x))).to ?_) (.inr ⟨rfl, rfl⟩) (.inl rfl)
  cases x <;> rfl

theorem ok_eq {P : Program} {w : World} {K : PySem.W.Frag} {mg : Str → Option Value} {base : Heap} {f : Addr} {fd : FuncData} (F : Fun K "_law_equal" "_law_equal" s__law_equal f fd) (T : Txt mg) (c_int : Cal P w K mg base CX0 1 "_law_is_integer" p__law_is_integer (sp__law_is_integer K)) (n : Nat)
    (c_eq : Cal P w K mg base CX0 (n + 1) "_law_equal" p__law_equal (spEq K n)) : FnOk P w K mg base CX0 (n + 2) f fd p__law_equal (spEq K (n + 1)) := by
  refine F.ok sc__law_equal (fun vs H Q E h => spD_len (E := E) h (by rintro ds k d ⟨x, rfl, _⟩; rfl)) (fun cdv A outer s H vs Q E hr h => ⟨_, (pss_cons (ps_if (pt_cmpR op_isN (pv 1) pe_non (nomark _)) (pss_one (ps_ret (pe_cmpR op_isN (pv 0) pe_non (nomark _)))) pss_nil)
      (pss_cons (ps_if (pt_val (pe_callB (k_isi (K := K) rfl) rfl T.b_isinstance (by decide +kernel) (pa_cons (pv 1) (pa_cons (pe_ty (n := "bool") rfl T.b_bool (by decide +kernel)) pa_nil)))) (pss_one (ps_ret (pe_and (pe_callB (k_isi (K := K) rfl) rfl T.b_isinstance (by decide +kernel) (pa_cons (pv 0) (pa_cons (pe_ty (n := "bool") rfl T.b_bool (by decide +kernel)) pa_nil))) (pe_one (pe_cmpR (k_eq (K := K) rfl (rUnits hr)) (pv 0) (pv 1) (nomark _)))))) pss_nil)
      (pss_cons (ps_if (pt_val (pe_callB (k_isi (K := K) rfl) rfl T.b_isinstance (by decide +kernel) (pa_cons (pv 1) (pa_cons (pe_ty (n := "int") rfl T.b_int (by decide +kernel)) pa_nil)))) (pss_one (ps_ret (pe_and (pe_cal c_int (hr.mono (by omega)) rfl pass0 (pa_cons (pv 0) pa_nil)) (pe_one (pe_cmpR (k_eq (K := K) rfl (rUnits hr)) (pv 0) (pv 1) (nomark _)))))) pss_nil)
      (pss_cons (ps_if (pt_val (pe_callB (k_isi (K := K) rfl) rfl T.b_isinstance (by decide +kernel) (pa_cons (pv 1) (pa_cons (pe_ty (n := "str") rfl T.b_str (by decide +kernel)) pa_nil)))) (pss_one (ps_ret (pe_and (pe_callB (k_isi (K := K) rfl) rfl T.b_isinstance (by decide +kernel) (pa_cons (pv 0) (pa_cons (pe_ty (n := "str") rfl T.b_str (by decide +kernel)) pa_nil))) (pe_one (pe_cmpR (k_eq (K := K) rfl (rUnits hr)) (pv 0) (pv 1) (nomark _)))))) pss_nil)
      (pss_cons (ps_if (PW.pt (pw_and (pt_val (pe_callB (k_isi (K := K) rfl) rfl T.b_isinstance (by decide +kernel) (pa_cons (pv 1) (pa_cons (pe_ty (n := "tuple") rfl T.b_tuple (by decide +kernel)) pa_nil)))) (pw_and1 (pt_not (pt_val (pe_callB (k_isi (K := K) rfl) rfl T.b_isinstance (by decide +kernel) (pa_cons (pv 0) (pa_cons (pe_ty (n := "tuple") rfl T.b_tuple (by decide +kernel)) pa_nil)))))))) (pss_one (ps_ret pe_bl)) pss_nil)
      (pss_cons (ps_if (PW.pt (pw_and (pt_val (pe_callB (k_isi (K := K) rfl) rfl T.b_isinstance (by decide +kernel) (pa_cons (pv 1) (pa_cons (pe_ty (n := "list") rfl T.b_list (by decide +kernel)) pa_nil)))) (pw_and1 (pt_not (pt_val (pe_callB (k_isi (K := K) rfl) rfl T.b_isinstance (by decide +kernel) (pa_cons (pv 0) (pa_cons (pe_ty (n := "list") rfl T.b_list (by decide +kernel)) pa_nil)))))))) (pss_one (ps_ret pe_bl)) pss_nil)
      (pss_cons (ps_if (pt_cmpR (k_ne (K := K) rfl (rUnits hr)) (pe_callB (k_len (K := K) rfl) rfl T.b_len (by decide +kernel) (pa_cons (pv 0) pa_nil)) (pe_callB (k_len (K := K) rfl) rfl T.b_len (by decide +kernel) (pa_cons (pv 1) pa_nil)) (nomark _)) (pss_one (ps_ret pe_bl)) pss_nil)
      (pss_one (ps_ret (pe_callB (k_all (K := K) rfl rfl) rfl T.b_all (by decide +kernel) (pa_cons (pe_lc rfl sc__law_equal.nd (pi_range1 rfl T.b_range (pa_cons (pe_callB (k_len (K := K) rfl) rfl T.b_len (by decide +kernel) (pa_cons (pv 1) pa_nil)) pa_nil)) (blkOk_by (own := [("at", 2)]) (N := n__law_equal) (sc := defScope s__law_equal) (by decide +kernel)) (fun _ _ _ _ _ => by exact (pg_name (i := 2) sc__law_equal.nd rfl (Or.inl rfl))) (fun _ _ _ _ _ => by exact pts_nil) (fun _ _ _ _ _ => by exact (pe_cal c_eq hr rfl pass0 (pa_cons (pe_ix (k_ix (K := K) rfl) (pv 0) (pv 2) (fun _ _ => rfl)) (pa_cons (pe_ix (k_ix (K := K) rfl) (pv 1) (pv 2) (fun _ _ => rfl)) pa_nil))))) pa_nil))))))))))), run_pure (E := E) (N := n__law_equal) (fun ds k d hp => ?_) h⟩)
  obtain ⟨x, rfl, hx, rfl, rfl⟩ := hp
  have flatB : flatD (.bool true) = true := rfl
  have isN : ∀ (a : Bool), isNoneD x = a → EvT (pc K) (tTest (tOp (fun x y H Q => y = .non ∧ Q (.bl (decide (x = .non))) H) (tVar 1) (tC .non))) (argsG [x, x] n__law_equal.length) a := fun a h => (t_test (d_isN (d_var rfl))).to h
  cases hx with
  | non => exact q_if (isN true rfl) (fun _ => q_ret ((d_isN (d_var (d := .none) rfl)).to rfl) (.inr ⟨rfl, flatB⟩) (.inl rfl)) fun e => nomatch e
  | bl b =>
    refine q_no (isN false rfl) (q_if ((t_B (e_isi (d_var rfl) (kit_bool (.bool b)))).to (b := true) rfl) (fun _ => ?_) fun e => nomatch e)
    exact q_ret ((d_andV (b := true) (e_isi (d_var rfl) (kit_bool (.bool b))) fun _ => e_eqS (d_var rfl) (d_var rfl) rfl rfl rfl (decide_eq_true rfl)).to rfl) (.inr ⟨rfl, flatB⟩) (.inl rfl)
  | int i =>
    refine q_no (isN false rfl) (q_no ((t_B (e_isi (d_var rfl) (kit_bool (.int i)))).to rfl) (q_if ((t_B (e_isi (d_var rfl) (kit_int (.int i)))).to (b := true) rfl) (fun _ => ?_) fun e => nomatch e))
    exact q_ret ((d_andV (b := true) (d_call (a_cons (d_var rfl) a_nil) ⟨.int i, rfl, rfl, rfl⟩) fun _ => e_eqS (d_var rfl) (d_var rfl) rfl rfl rfl (decide_eq_true rfl)).to rfl) (.inr ⟨rfl, flatB⟩) (.inl rfl)
  | str z =>
    refine q_no (isN false rfl) (q_no ((t_B (e_isi (d_var rfl) (kit_bool (.str z)))).to rfl) (q_no ((t_B (e_isi (d_var rfl) (kit_int (.str z)))).to rfl) (q_if ((t_B (e_isi (d_var rfl) (kit_str (.str z)))).to (b := true) rfl) (fun _ => ?_) fun e => nomatch e)))
    exact q_ret ((d_andV (b := true) (e_isi (d_var rfl) (kit_str (.str z))) fun _ => e_eqS (d_var rfl) (d_var rfl) rfl rfl rfl (decide_eq_true rfl)).to rfl) (.inr ⟨rfl, flatB⟩) (.inl rfl)
  | @lst m xs hl hxs =>
    refine q_no (isN false rfl) (q_no ((t_B (e_isi (d_var rfl) (kit_bool (.list xs)))).to rfl) (q_no ((t_B (e_isi (d_var rfl) (kit_int (.list xs)))).to rfl) (q_no ((t_B (e_isi (d_var rfl) (kit_str (.list xs)))).to rfl) ?_)))
    refine q_no ((t_and (b := false) ((t_B (e_isi (d_var rfl) (kit_tuple (.list xs)))).to (b := false) rfl) fun e => nomatch e).to rfl) ?_
    refine q_no ((t_and (b := false) ((t_B (e_isi (d_var rfl) (kit_list (.list xs)))).to (b := true) rfl) fun _ => (t_not ((t_B (e_isi (d_var rfl) (kit_list (.list xs)))).to (b := true) rfl)).to rfl).to rfl) ?_
    refine q_no ((t_test (e_neI (d_lenL (d_var rfl)) (d_lenL (d_var rfl)))).to (by simp)) ?_
    refine s_ret ((d_all (d_lcB (fun _ => true) (i_rng1 (a_cons (d_lenL (d_var rfl)) a_nil) (by omega) (by omega)) (by simp [upI]; omega) fun i hi => ?_)).to (by simp)) (.inr ⟨rfl, flatB⟩) (.inl rfl)
    obtain ⟨j, hj, rfl⟩ := List.mem_map.mp hi
    have hj' : j < xs.length := by simpa using hj
    have hg : xs[j]? = some xs[j] := List.getElem?_eq_getElem hj'
    exact ⟨_, _, g_name, fun j hj => hj, _, d_call (a_cons (e_ixLv (d_var rfl) (d_var rfl) (atI_i hg)) (a_cons (e_ixLv (d_var rfl) (d_var rfl) (atI_i hg)) a_nil)) ⟨_, rfl, hxs _ (List.getElem_mem hj'), rfl, rfl⟩⟩
  | @tup m xs hl hxs =>
    refine q_no (isN false rfl) (q_no ((t_B (e_isi (d_var rfl) (kit_bool (.tuple xs)))).to rfl) (q_no ((t_B (e_isi (d_var rfl) (kit_int (.tuple xs)))).to rfl) (q_no ((t_B (e_isi (d_var rfl) (kit_str (.tuple xs)))).to rfl) ?_)))
    refine q_no ((t_and (b := false) ((t_B (e_isi (d_var rfl) (kit_tuple (.tuple xs)))).to (b := true) rfl) fun _ => (t_not ((t_B (e_isi (d_var rfl) (kit_tuple (.tuple xs)))).to (b := true) rfl)).to rfl).to rfl) ?_
    refine q_no ((t_and (b := false) ((t_B (e_isi (d_var rfl) (kit_list (.tuple xs)))).to (b := false) rfl) fun e => nomatch e).to rfl) ?_
    refine q_no ((t_test (e_neI (d_lenT (d_var rfl)) (d_lenT (d_var rfl)))).to (by simp)) ?_
    refine s_ret ((d_all (d_lcB (fun _ => true) (i_rng1 (a_cons (d_lenT (d_var rfl)) a_nil) (by omega) (by omega)) (by simp [upI]; omega) fun i hi => ?_)).to (by simp)) (.inr ⟨rfl, flatB⟩) (.inl rfl)
    obtain ⟨j, hj, rfl⟩ := List.mem_map.mp hi
    have hj' : j < xs.length := by simpa using hj
    have hg : xs[j]? = some xs[j] := List.getElem?_eq_getElem hj'
    exact ⟨_, _, g_name, fun j hj => hj, _, d_call (a_cons (e_ixTv (d_var rfl) (d_var rfl) (atI_i hg)) (a_cons (e_ixTv (d_var rfl) (d_var rfl) (atI_i hg)) a_nil)) ⟨_, rfl, hxs _ (List.getElem_mem hj'), rfl, rfl⟩⟩
theorem ok__law_equal {P : Program} {w : World} {K : PySem.W.Frag} {mg : Str → Option Value} {base : Heap} {f : Addr} {fd : FuncData} (F : Fun K "_law_equal" "_law_equal" s__law_equal f fd) (T : Txt mg) (c_int : Cal P w K mg base CX0 1 "_law_is_integer" p__law_is_integer (sp__law_is_integer K))
    (mgf : mg "_law_equal" = some (.ref f)) (bd : Binds K fd p__law_equal []) : FnOk P w K mg base CX0 10 f fd p__law_equal (sp__law_equal K) := by
  have all : ∀ n, FnOk P w K mg base CX0 (n + 1) f fd p__law_equal (spEq K n) := by
    intro n
    induction n with
    | zero => exact ⟨fun _ _ _ _ h => h.elim, fun _ _ _ _ _ _ _ _ _ _ _ _ _ h => h.elim⟩
    | succ n ih => exact ok_eq F T c_int n ⟨f, fd, ih, mgf, F.kp, bd⟩
  exact (all 8).mono (by decide)

theorem ok__law_allocation {P : Program} {w : World} {K : PySem.W.Frag} {mg : Str → Option Value} {base : Heap} {f : Addr} {fd : FuncData} (F : Fun K "_law_allocation" "_law_allocation" s__law_allocation f fd) (T : Txt mg) (c__law_next : Cal P w K mg base CX0 1 "_law_next" p__law_next (sp__law_next K)) :
    FnOk P w K mg base CX0 2 f fd p__law_allocation (sp__law_allocation K) := by
  refine F.ok sc__law_allocation (fun vs H Q E h => spS_len h (by rintro ds k P ⟨v, b, rfl, _⟩; rfl)) (fun cdv A outer s H vs Q E hr h => ⟨_, (pss_cons (ps_setLc (i := 3) rfl sc__law_allocation.nd rfl rfl (sw_true rfl rfl rfl (by decide +kernel)) (pi_range1 rfl T.b_range (pa_cons (pv 1) pa_nil)) (blkOk_by (own := [("variant", 4)]) (N := n__law_allocation) (sc := defScope s__law_allocation) (by decide +kernel)) (fun _ _ _ _ _ => by exact (pg_name (i := 4) sc__law_allocation.nd rfl (Or.inl rfl))) (fun _ _ _ _ _ => by exact pts_nil) (fun _ _ _ _ _ => by exact pe_int))
      (pss_cons (ps_for PassesOwn.never rfl (pi_range1 rfl T.b_range (pa_cons (pv 2) pa_nil)) (pg_name (i := 5) sc__law_allocation.nd rfl (Or.inl rfl)) (pss_cons (ps_set (i := 4) sc__law_allocation.nd rfl (Or.inl rfl) (pe_cal c__law_next (hr.mono (by decide)) rfl pass0 (pa_cons (pv 0) (pa_cons (pv 1) pa_nil))))
      (pss_one (ps_asg (pe_op (k_add (K := K) rfl) (pe_ix (k_ix (K := K) rfl) (pv 3) (pv 4) (fun _ _ => rfl)) pe_int) (pg_sub (pv 3) (pv 4) set_list)))))
      (pss_one (ps_ret (pe_callTy (k_tuple (K := K) rfl) rfl T.b_tuple (by decide +kernel) (pa_cons (pv 3) pa_nil)))))), run_str (N := n__law_allocation) (fun st l ds k P' hp => ?_) h⟩)
  obtain ⟨v, b, rfl, h1, h2, h3, h4, rfl, rfl⟩ := hp
  refine q_asgO (d_lcI (fun _ => 0) (i_rng1 (a_cons (d_var rfl) a_nil) (by omega) (by omega)) (by simp [upI]; omega) fun i _ => ⟨_, _, g_name, fun j hj => hj, .v, d_int⟩) ?_
  refine q_for (i_rng1 (a_cons (d_var rfl) a_nil) (by omega) (by omega))
    (fun n Γ1 => ∃ ns t4 t5, Γ1 = [some (.r (.ref st)), some (.v (.int v)), some (.v (.int b)), some (.o (.list (ns.map .int))), t4, t5] ∧ Alc ns v n) ⟨_, _, _, rfl, alc0 (by omega)⟩ (fun n a Γ1 hn' hI => ?_) (fun Γ1 hI => ?_)
  · obtain ⟨ns, t4, t5, rfl, ha⟩ := hI
    obtain ⟨i, rfl, hi1, hi2⟩ := upI_get hn'
    refine ⟨_, _, g_name, q_asgN _ (n_call (st := st) (l := l) rfl rfl (a_cons (d_var rfl) a_nil) ⟨v, rfl, by omega, by omega, rfl, rfl⟩) ?_⟩
    rintro d ⟨x, rfl, hx0, hx1⟩
    obtain ⟨m, rfl⟩ := Int.eq_ofNat_of_zero_le hx0
    have hm : m < ns.length := by have := ha.len; omega
    have hg : (ns.map PyData.int)[m]? = some (.int (ns.getD m 0)) := by simp [hm]
    exact s_setII rfl (e_add (e_ixL (d_varO rfl) (d_var rfl) (atI_nat hg) rfl) d_int) (d_var rfl) rfl hm (.inl ⟨_, .inl rfl, ns.set m (ns.getD m 0 + 1), _, _, rfl, ha.one hm⟩)
  · obtain ⟨ns, t4, t5, rfl, ha⟩ := hI
    have hb : (b.toNat : Int) = b := by omega
    refine s_ret (d_tuple (d_varO rfl) (flatAll_ints _)) (.inr ⟨rfl, flatT _⟩) ⟨_, rfl, ns, rfl, ?_⟩
    simpa [upI, hb] using ha

theorem ok__law_near {P : Program} {w : World} {K : PySem.W.Frag} {mg : Str → Option Value} {base : Heap} {f : Addr} {fd : FuncData} (F : Fun K "_law_near" "_law_near" s__law_near f fd) (T : Txt mg) (c__law_next : Cal P w K mg base CX0 1 "_law_next" p__law_next (sp__law_next K)) :
    FnOk P w K mg base CX0 2 f fd p__law_near (sp__law_nearA K) := by
  refine F.ok sc__law_near (fun vs H Q E h => spS_len h (by rintro ds k P ⟨ns, v, b, rfl, _⟩; rfl)) (fun cdv A outer s H vs Q E hr h => ⟨_, (pss_cons (ps_set (i := 2) sc__law_near.nd rfl (Or.inl rfl) (pe_callTy (k_list (K := K) rfl) rfl T.b_list (by decide +kernel) (pa_cons (pv 1) pa_nil)))
      (pss_cons (ps_for PassesOwn.never rfl (pi_range1 rfl T.b_range (pa_cons (pe_cal c__law_next (hr.mono (by decide)) rfl pass0 (pa_cons (pv 0) (pa_cons pe_int pa_nil))) pa_nil)) (pg_name (i := 3) sc__law_near.nd rfl (Or.inl rfl)) (pss_cons (ps_set (i := 4) sc__law_near.nd rfl (Or.inl rfl) (pe_cal c__law_next (hr.mono (by decide)) rfl pass0 (pa_cons (pv 0) (pa_cons (pe_callB (k_len (K := K) rfl) rfl T.b_len (by decide +kernel) (pa_cons (pv 2) pa_nil)) pa_nil))))
      (pss_cons (ps_set (i := 5) sc__law_near.nd rfl (Or.inl rfl) (pe_cal c__law_next (hr.mono (by decide)) rfl pass0 (pa_cons (pv 0) (pa_cons (pe_callB (k_len (K := K) rfl) rfl T.b_len (by decide +kernel) (pa_cons (pv 2) pa_nil)) pa_nil))))
      (pss_one (ps_if (pt_cmpR op_gt (pe_ix (k_ix (K := K) rfl) (pv 2) (pv 4) (fun _ _ => rfl)) pe_int (nomark _)) (pss_cons (ps_asg (pe_op op_sub (pe_ix (k_ix (K := K) rfl) (pv 2) (pv 4) (fun _ _ => rfl)) pe_int) (pg_sub (pv 2) (pv 4) set_list))
      (pss_one (ps_asg (pe_op (k_add (K := K) rfl) (pe_ix (k_ix (K := K) rfl) (pv 2) (pv 5) (fun _ _ => rfl)) pe_int) (pg_sub (pv 2) (pv 5) set_list)))) pss_nil)))))
      (pss_one (ps_ret (pe_callTy (k_tuple (K := K) rfl) rfl T.b_tuple (by decide +kernel) (pa_cons (pv 2) pa_nil)))))), run_str (N := n__law_near) (fun st l ds k P' hp => ?_) h⟩)
  obtain ⟨ns, v, b, rfl, hn, h1, h2, rfl, rfl⟩ := hp
  have hl := hn.len
  refine q_asgO (e_listT (d_var rfl) (flatAll_ints _)) ?_
  refine q_forRN (Q := fun n => 0 ≤ n ∧ n < 3) (n_call (st := st) (l := l) rfl rfl (a_cons d_int a_nil) ⟨3, rfl, by decide, by decide, rfl, rfl⟩) fun m hm => ?_
  refine q_for (i_rng1 (a_cons d_int a_nil) (by omega) (by omega))
    (fun n Γ1 => ∃ ms t3 t4 t5, Γ1 = [some (.r (.ref st)), some (.v (.tuple (ns.map .int))), some (.o (.list (ms.map .int))), t3, t4, t5] ∧ Alc ms v b) ⟨ns, _, _, _, rfl, hn⟩ (fun n a Γ1 hn' hI => ?_) (fun Γ1 hI => ?_)
  · obtain ⟨ms, t3, t4, t5, rfl, ha⟩ := hI
    have hl2 := ha.len
    obtain ⟨i, rfl, hi1, hi2⟩ := upI_get hn'
    refine ⟨_, _, g_name, q_asgN _ (n_call (st := st) (l := l) rfl rfl (a_cons (d_lenL (d_varO rfl)) a_nil) ⟨_, rfl, by rw [List.length_map]; omega, by rw [List.length_map]; omega, rfl, rfl⟩) ?_⟩
    rintro d ⟨x, rfl, hx0, hx1⟩
    refine q_asgN _ (n_call (st := st) (l := l) rfl rfl (a_cons (d_lenL (d_varO rfl)) a_nil) ⟨_, rfl, by rw [List.length_map]; omega, by rw [List.length_map]; omega, rfl, rfl⟩) ?_
    rintro d ⟨y, rfl, hy0, hy1⟩
    rw [List.length_map] at hx1 hy1
    obtain ⟨x, rfl⟩ := Int.eq_ofNat_of_zero_le hx0
    obtain ⟨y, rfl⟩ := Int.eq_ofNat_of_zero_le hy0
    have lx : x < ms.length := by omega
    have ly : y < ms.length := by omega
    have ly2 : y < (ms.set x (ms.getD x 0 - 1)).length := by simpa using ly
    refine s_if (t_test (d_gt (e_ixL (d_varO rfl) (d_var rfl) (at_ints lx) rfl) d_int)) (fun w => ?_) fun w => s_next (.inl ⟨_, .inl rfl, _, _, _, _, rfl, ha⟩)
    have w' := of_decide_eq_true w
    refine q_setII rfl (d_sub (e_ixL (d_varO rfl) (d_var rfl) (at_ints lx) rfl) d_int) (d_var rfl) rfl lx ?_
    exact s_setII rfl (e_add (e_ixL (d_varO rfl) (d_var rfl) (at_ints ly2) rfl) d_int) (d_var rfl) rfl ly2 (.inl ⟨_, .inl rfl, _, _, _, _, rfl, ha.mv lx ly w'⟩)
  · obtain ⟨ms, t3, t4, t5, rfl, ha⟩ := hI
    exact s_ret (d_tuple (d_varO rfl) (flatAll_ints _)) (.inr ⟨rfl, flatT _⟩) ⟨_, rfl, ms, rfl, ha⟩

theorem ok__law_series {P : Program} {w : World} {K : PySem.W.Frag} {mg : Str → Option Value} {base : Heap} {f : Addr} {fd : FuncData} (F : Fun K "_law_series" "_law_series" s__law_series f fd) (T : Txt mg) (c__law_allocation : Cal P w K mg base CX0 2 "_law_allocation" p__law_allocation (sp__law_allocation K)) (c__law_next : Cal P w K mg base CX0 1 "_law_next" p__law_next (sp__law_next K)) (c__law_near : Cal P w K mg base CX0 2 "_law_near" p__law_near (sp__law_nearA K)) :
    FnOk P w K mg base CX0 3 f fd p__law_series (sp__law_seriesN K) := by
  refine F.ok sc__law_series (fun vs H Q E h => spS_len h (by rintro ds k P ⟨v, b, n, N, rfl, _⟩; rfl)) (fun cdv A outer s H vs Q E hr h => ⟨_, (pss_cons (ps_set (i := 4) sc__law_series.nd rfl (Or.inl rfl) (pe_lst (pa_cons (pe_cal c__law_allocation (hr.mono (by decide)) rfl pass0 (pa_cons (pv 0) (pa_cons (pv 1) (pa_cons (pv 2) pa_nil)))) pa_nil)))
      (pss_cons (ps_for PassesOwn.never rfl (pi_range1 rfl T.b_range (pa_cons (pe_op op_sub (pv 3) pe_int) pa_nil)) (pg_name (i := 5) sc__law_series.nd rfl (Or.inl rfl)) (pss_one (ps_if (pt_cmpR (k_eq (K := K) rfl (rUnits hr)) (pe_cal c__law_next (hr.mono (by decide)) rfl pass0 (pa_cons (pv 0) (pa_cons pe_int pa_nil))) pe_int (nomark _)) (pss_one (ps_expr (k_bm (K := K) rfl PySem.F.plainAttrs_list PySem.F.slot_list_append PySem.F.type_list_append mt_append (pv 4) (pa_cons (pe_cal c__law_near (hr.mono (by decide)) rfl pass0 (pa_cons (pv 0) (pa_cons (pe_ix (k_ix (K := K) rfl) (pv 4) (pe_cal c__law_next (hr.mono (by decide)) rfl pass0 (pa_cons (pv 0) (pa_cons (pe_callB (k_len (K := K) rfl) rfl T.b_len (by decide +kernel) (pa_cons (pv 4) pa_nil)) pa_nil))) (fun _ _ => rfl)) pa_nil))) pa_nil)))) (pss_one (ps_expr (k_bm (K := K) rfl PySem.F.plainAttrs_list PySem.F.slot_list_append PySem.F.type_list_append mt_append (pv 4) (pa_cons (pe_cal c__law_allocation (hr.mono (by decide)) rfl pass0 (pa_cons (pv 0) (pa_cons (pv 1) (pa_cons (pv 2) pa_nil)))) pa_nil)))))))
      (pss_one (ps_ret (pe_callTy (k_tuple (K := K) rfl) rfl T.b_tuple (by decide +kernel) (pa_cons (pv 4) pa_nil)))))), run_str (N := n__law_series) (fun st l ds k P' hp => ?_) h⟩)
  obtain ⟨v, b, n, N, rfl, v1, v5, b0, b20, n1, n10, nN, rfl, rfl⟩ := hp
  refine q_asgNO _ (n_lst1 (n_call (st := st) (l := l) rfl rfl (a_cons (d_var rfl) (a_cons (d_var rfl) a_nil)) ⟨v, b, rfl, v1, by omega, b0, by omega, rfl, rfl⟩) (by rintro d ⟨ns, rfl, _⟩; exact flatT ns)) ?_
  rintro d ⟨x, rfl, ns, rfl, hns⟩
  refine q_for (i_rng1 (n := n - 1) (a_cons (d_sub (d_var rfl) d_int) a_nil) (by omega) (by omega))
    (fun m Γ1 => ∃ (B : List (List Int)) (t5 : Option Rs), Γ1 = [some (.r (.ref st)), some (.v (.int v)), some (.v (.int b)), some (.v (.int n)), some (.o (.list (B.map tupD))), t5] ∧ B.length = m + 1 ∧ ∀ a ∈ B, Alc a v b) ⟨[ns], _, rfl, rfl, by simpa using hns⟩ (fun m a Γ1 hn' hI => ?_) (fun Γ1 hI => ?_)
  · obtain ⟨B, t5, rfl, hB, hA⟩ := hI
    obtain ⟨hm, rfl⟩ := upI_at hn'
    have add : ∀ {r : List Int}, Alc r v b → ∃ (B' : List (List Int)) (t5 : Option Rs), [some (Rs.r (.ref st)), some (.v (.int v)), some (.v (.int b)), some (.v (.int n)), some (.o (.list (B.map tupD ++ [.tuple (r.map .int)]))), some (.v (.int (m : Int)))] = [some (.r (.ref st)), some (.v (.int v)), some (.v (.int b)), some (.v (.int n)), some (.o (.list (B'.map tupD))), t5] ∧ B'.length = m + 1 + 1 ∧ ∀ a ∈ B', Alc a v b := fun {r} hr => ⟨B ++ [r], _, by rw [List.map_append]; rfl, by simp [hB], fun a ha => by
      rcases List.mem_append.mp ha with w | w
      · exact hA a w
      · rw [List.mem_singleton.mp w]; exact hr⟩
    have fl : ∀ d : PyData, (∃ ms : List Int, d = .tuple (ms.map .int) ∧ Alc ms v b) → flatD d = true := by rintro d ⟨ms, rfl, _⟩; exact flatT ms
    refine ⟨_, _, g_name, s_ifN (tn_eq (n_call (st := st) (l := l) rfl rfl (a_cons d_int a_nil) ⟨2, rfl, by decide, by decide, rfl, rfl⟩) (d_int.sm (Q := fun m => m = 1) rfl)) ?_ ?_⟩
    · refine s_appN (k := .v) (Pd := fun d => ∃ ms : List Int, d = .tuple (ms.map .int) ∧ Alc ms v b) rfl (n_callN (st := st) (l := l) (Pa := fun d => ∃ ms : List Int, d = .tuple (ms.map .int) ∧ Alc ms v b) rfl rfl (n_ixL (d_varO rfl).n (n_call (st := st) (l := l) rfl rfl (a_cons (d_lenL (d_varO rfl)) a_nil) ⟨_, rfl, by rw [List.length_map]; omega, by rw [List.length_map]; omega, rfl, rfl⟩) ?_) ?_) fl (by simp; omega) ?_
      · rintro x i rfl ⟨hi0, hi1⟩
        rw [List.length_map] at hi1
        obtain ⟨i, rfl⟩ := Int.eq_ofNat_of_zero_le hi0
        have li : i < B.length := by omega
        have : B.getD i [] ∈ B := by rw [List.getD_eq_getElem?_getD, List.getElem?_eq_getElem li]; exact List.getElem_mem li
        exact ⟨_, _, rfl, at_tup li, flatT _, _, rfl, hA _ this⟩
      · rintro x ⟨ms, rfl, hm⟩
        exact ⟨ms, v, b, rfl, hm, v1, v5, rfl, rfl⟩
      · rintro d ⟨ms, rfl, hm⟩
        exact .inl ⟨_, .inl rfl, add hm⟩
    · refine s_appN (k := .v) (Pd := fun d => ∃ ms : List Int, d = .tuple (ms.map .int) ∧ Alc ms v b) rfl (n_call (st := st) (l := l) rfl rfl (a_cons (d_var rfl) (a_cons (d_var rfl) a_nil)) ⟨v, b, rfl, v1, by omega, b0, by omega, rfl, rfl⟩) fl (by simp; omega) ?_
      rintro d ⟨ms, rfl, hm⟩
      exact .inl ⟨_, .inl rfl, add hm⟩
  · obtain ⟨B, t5, rfl, hB, hA⟩ := hI
    refine s_ret (d_tuple (d_varO rfl) (fl_rows B)) (.inr ⟨rfl, fl_rows B⟩) ⟨_, rfl, B, rfl, ⟨by omega, ?_, hA, v1, v5, b20⟩, ?_⟩
    · rw [hB]
      simp [upI]
      omega
    · rw [hB]
      simp [upI]
      omega

theorem ok__law_sorted {P : Program} {w : World} {K : PySem.W.Frag} {mg : Str → Option Value} {base : Heap} {f : Addr} {fd : FuncData} (F : Fun K "_law_sorted" "_law_sorted" s__law_sorted f fd) (T : Txt mg) :
    FnOk P w K mg base CX0 1 f fd p__law_sorted (sp__law_sortedR K) := by
  refine F.ok sc__law_sorted (fun vs H Q E h => spD_len h (by rintro ds k d ⟨ns, v, b, rfl, _⟩; rfl)) (fun cdv A outer s H vs Q E hr h => ⟨_, (pss_cons (ps_set (i := 1) sc__law_sorted.nd rfl (Or.inl rfl) (pe_lst pa_nil))
      (pss_cons (ps_for PassesOwn.never rfl (pi_range1 rfl T.b_range (pa_cons (pe_callB (k_len (K := K) rfl) rfl T.b_len (by decide +kernel) (pa_cons (pv 0) pa_nil)) pa_nil)) (pg_name (i := 2) sc__law_sorted.nd rfl (Or.inr rfl)) (pss_one (ps_set (i := 1) sc__law_sorted.nd rfl (Or.inl rfl) (pe_op (k_add (K := K) rfl) (pv 1) (pe_lc rfl sc__law_sorted.nd (pi_range1 rfl T.b_range (pa_cons (pe_ix (k_ix (K := K) rfl) (pv 0) (pv 2) (fun _ _ => rfl)) pa_nil)) (blkOk_by (own := [("bucket", 3)]) (N := n__law_sorted) (sc := defScope s__law_sorted) (by decide +kernel)) (fun _ _ _ _ _ => by exact (pg_name (i := 3) sc__law_sorted.nd rfl (Or.inl rfl))) (fun _ _ _ _ _ => by exact pts_nil) (fun _ _ _ _ _ => by exact (pv 2)))))))
      (pss_one (ps_ret (pe_callTy (k_tuple (K := K) rfl) rfl T.b_tuple (by decide +kernel) (pa_cons (pv 1) pa_nil)))))), run_pure (N := n__law_sorted) (fun ds k d hp => ?_) h⟩)
  obtain ⟨ns, v, b, rfl, h, v1, hv, hb, rfl, rfl⟩ := hp
  have hl := h.len
  have o := ord_upI (m := v) (by omega)
  have rl := runL_length h o
  refine q_asgO (d := .list (([] : List Int).map .int)) (d_lst (kv := false) (ds := []) a_nil rfl (by decide)) ?_
  refine q_for (i_rng1 (n := v) (a_cons ((d_lenT (d_var rfl)).to (by rw [List.length_map, hl])) a_nil) (by omega) (by omega))
    (fun n Γ1 => ∃ t2 t3, Γ1 = [some (.v (.tuple (ns.map .int))), some (.o (.list ((runL ns ((upI 0 v.toNat).take n)).map .int))), t2, t3]) ⟨_, _, rfl⟩ (fun n a Γ1 hn' hI => ?_) (fun Γ1 hI => ?_)
  · obtain ⟨t2, t3, rfl⟩ := hI
    obtain ⟨hn, rfl⟩ := upI_at hn'
    have hm := gd_mem (l := ns) (j := n) (by omega)
    have x0 := h.nn _ hm
    have x1 := h.le _ hm
    have at0 : atI (ns.map PyData.int) (n : Int) = some (.int (ns.getD n 0)) := at_ints (by omega)
    have gx : gI ns (n : Int) = ns.getD n 0 := by simp [gI]
    generalize ns.getD n 0 = x at x0 x1 at0 gx
    have lu : (upI 0 x.toNat).length = x.toNat := by simp [upI]
    have tl := runL_take (as := ns) (os := upI 0 v.toNat) n
    refine ⟨_, _, g_name, s_asgO ((e_catVO (ds := (runL ns ((upI 0 v.toNat).take n)).map PyData.int) (es := ((upI 0 x.toNat).map fun _ => (n : Int)).map PyData.int) rfl (flatAll_ints _) (d_lcI (l := upI 0 x.toNat) (en := imI) (fun _ => (n : Int)) (i_rng1 (n := x) (a_cons (e_ixT (d_var rfl) (d_var rfl) at0 rfl) a_nil) (by omega) (by omega)) (by simp [upI]; omega) fun i hi => ⟨_, _, g_name, fun j hj => hj, .v, d_var rfl⟩) (flatAll_ints _) (by simp only [List.length_map, lu]; omega)).to ?_) (.inl ⟨_, .inl rfl, some (.v (.int (n : Int))), _, rfl⟩)⟩
    have ex : (upI 0 v.toNat).take (n + 1) = (upI 0 v.toNat).take n ++ [(n : Int)] := by
      rw [List.take_add_one]
      simp [upI, show n < v.toNat by omega]
    rw [ex, runL_snoc, List.map_append]
    congr 2
    rw [gx, List.map_const', lu]
  · obtain ⟨t2, t3, rfl⟩ := hI
    have e : (upI 0 v.toNat).take ((upI 0 v.toNat).map fun i => Im.d (.int i)).length = upI 0 v.toNat := List.take_of_length_le (by simp)
    rw [e]
    exact s_ret (d_tuple (d_varO rfl) (flatAll_ints _)) (.inr ⟨rfl, flatT _⟩) (.inl rfl)

theorem ok__law_assignments {P : Program} {w : World} {K : PySem.W.Frag} {mg : Str → Option Value} {base : Heap} {f : Addr} {fd : FuncData} (F : Fun K "_law_assignments" "_law_assignments" s__law_assignments f fd) (T : Txt mg) :
    FnOk P w K mg base CX0 1 f fd p__law_assignments (sp__law_assignmentsA K) := by
  refine F.ok sc__law_assignments (fun vs H Q E h => spD_len h (by rintro ds k d ⟨as, v, b, rfl, _⟩; rfl)) (fun cdv A outer s H vs Q E hr h => ⟨_, (pss_cons (ps_set (i := 1) sc__law_assignments.nd rfl (Or.inl rfl) (pe_lst (pa_cons (pe_tupN pa_nil) pa_nil)))
      (pss_cons (ps_for PassesOwn.never rfl (pi_range1 rfl T.b_range (pa_cons (pe_callB (k_sum (K := K) rfl rfl) rfl T.b_sum (by decide +kernel) (pa_cons (pv 0) pa_nil)) pa_nil)) (pg_name (i := 2) sc__law_assignments.nd rfl (Or.inl rfl)) (pss_cons (ps_set (i := 3) sc__law_assignments.nd rfl (Or.inl rfl) (pe_lst pa_nil))
      (pss_cons (ps_for PassesOwn.never rfl (k_seq (K := K) rfl (pv 1)) (pg_name (i := 4) sc__law_assignments.nd rfl (Or.inl rfl)) (pss_one (ps_for PassesOwn.never rfl (pi_range1 rfl T.b_range (pa_cons (pe_callB (k_len (K := K) rfl) rfl T.b_len (by decide +kernel) (pa_cons (pv 0) pa_nil)) pa_nil)) (pg_name (i := 5) sc__law_assignments.nd rfl (Or.inl rfl)) (pss_one (ps_if (pt_cmpR op_lt (k_tm (K := K) rfl PySem.F.slot_tuple_count PySem.F.type_tuple_count (k_count (K := K) rfl) (pv 4) (pa_cons (pv 5) pa_nil)) (pe_ix (k_ix (K := K) rfl) (pv 0) (pv 5) (fun _ _ => rfl)) (nomark _)) (pss_one (ps_expr (k_bm (K := K) rfl PySem.F.plainAttrs_list PySem.F.slot_list_append PySem.F.type_list_append mt_append (pv 3) (pa_cons (pe_op (k_add (K := K) rfl) (pv 4) (pe_tupN (pa_cons (pv 5) pa_nil))) pa_nil)))) pss_nil)))))
      (pss_one (ps_set (i := 1) sc__law_assignments.nd rfl (Or.inl rfl) (pv 3))))))
      (pss_one (ps_ret (pv 1))))), run_pure (N := n__law_assignments) (fun ds k d hp => ?_) h⟩)
  obtain ⟨as, v, b, rfl, h, v1, v5, b6, rfl, rfl⟩ := hp
  have hl := h.len
  have b0 : 0 ≤ b := by rw [← h.sum]; exact sum_nn h.nn
  refine q_asgO (d := .list ((asgN as 0).map tupD)) (d_lst (kv := false) (a_cons (d_tup a_nil (by simp)) a_nil) rfl (by simp [asgN])) ?_
  refine q_for (i_rng1 (n := b) (a_cons ((e_sumT (d_var rfl)).to (by rw [h.sum])) a_nil) (by omega) (by omega))
    (fun n Γ1 => ∃ t2 t3 t4 t5, Γ1 = [some (.v (.tuple (as.map .int))), some (.o (.list ((asgN as n).map tupD))), t2, t3, t4, t5]) ⟨_, _, _, _, rfl⟩ (fun n a Γ1 hn' hI => ?_) (fun Γ1 hI => ?_)
  · obtain ⟨t2, t3, t4, t5, rfl⟩ := hI
    obtain ⟨hnb, rfl⟩ := upI_at hn'
    have small2 := asgN_small (n := n + 1) h.nn (by omega) (by omega)
    refine ⟨_, _, g_name, ?_⟩
    refine q_asgO (d_lst (kv := false) (ds := []) a_nil rfl (by decide)) ?_
    refine s_freeze (n := 1) rfl ?_
    refine q_for (i_seqL (d_var rfl) kv_ne)
      (fun m Γ1 => ∃ lg t4 t5, Γ1 = [some (.v (.tuple (as.map .int))), some (.v (.list ((asgN as n).map tupD))), some (.v (.int (n : Int))), some (.o (.list lg)), t4, t5] ∧ lg = (((asgN as n).take m).flatMap fun r => (nxtA as r).map fun x => r ++ [x]).map tupD) ⟨_, _, _, rfl, rfl⟩ (fun m a Γ1 hm' hI => ?_) (fun Γ1 hI => ?_)
    · obtain ⟨lg, t4, t5, rfl, hlg⟩ := hI
      have hml : m < (asgN as n).length := by have := (List.getElem?_eq_some_iff.mp hm').1; simpa using this
      have ha : a = .d (tupD (asgN as n)[m]) := by
        rw [List.map_map, List.getElem?_map, List.getElem?_eq_getElem hml] at hm'
        exact (Option.some.inj hm').symm
      subst ha
      have hr := (mem_asgN h.nn n _).mp (List.getElem_mem hml)
      have tk : (asgN as n).take (m + 1) = (asgN as n).take m ++ [(asgN as n)[m]] := by rw [List.take_add_one, List.getElem?_eq_getElem hml]; rfl
      have le : (((asgN as n).take (m + 1)).flatMap fun r => (nxtA as r).map fun x => r ++ [x]).length ≤ 15625 := by
        have e : asgN as (n + 1) = (((asgN as n).take (m + 1)).flatMap fun r => (nxtA as r).map fun x => r ++ [x]) ++ (((asgN as n).drop (m + 1)).flatMap fun r => (nxtA as r).map fun x => r ++ [x]) := by
          rw [← List.flatMap_append, List.take_append_drop]
          rfl
        rw [e, List.length_append] at small2
        omega
      rw [tk, List.flatMap_append, List.flatMap_singleton, List.length_append] at le
      generalize (asgN as n)[m] = r at hr tk le
      have up1 : ∀ m' : Nat, upI 0 (m' + 1) = upI 0 m' ++ [(m' : Int)] := fun m' => by simp [upI, List.range_succ]
      refine ⟨_, _, g_name, s_for (i_rng1 (n := (as.length : Nat)) (a_cons ((d_lenT (d_var rfl)).to (by rw [List.length_map])) a_nil) (by omega) (by omega))
        (fun m' Γ1 => ∃ t5, Γ1 = [some (.v (.tuple (as.map .int))), some (.v (.list ((asgN as n).map tupD))), some (.v (.int (n : Int))), some (.o (.list (lg ++ (((upI 0 m').filter fun x => decide ((r.count x : Int) < gI as x)).map fun x => tupD (r ++ [x]))))), some (.v (tupD r)), t5]) ⟨t5, by simp [upI]⟩ (fun m' a Γ1 hm2 hI => ?_) (fun Γ1 hI => ?_)⟩
      · obtain ⟨t5, rfl⟩ := hI
        obtain ⟨hmv, rfl⟩ := upI_at hm2
        have hmv' : m' < as.length := by omega
        have gz : gI as (m' : Int) = as.getD m' 0 := by simp [gI]
        refine ⟨_, _, g_name, s_if (t_test (d_lt (d_count (d_var rfl) (d_var rfl)) (e_ixT (d_var rfl) (d_var rfl) (at_ints hmv') rfl))) (fun w => ?_) fun w => s_next (.inl ⟨_, .inl rfl, some (.v (.int (m' : Int))), ?_⟩)⟩
        · have w' := of_decide_eq_true w
          refine s_app rfl (((e_catT (d_var rfl) (d_tup (a_consV (d_var rfl) a_nil) (by simp)) (by simp; omega)).to (y := tupD (r ++ [(m' : Int)])) ?_)) (flatT _) ?_ (.inl ⟨_, .inl rfl, some (.v (.int (m' : Int))), ?_⟩)
          · show PyData.tuple (r.map .int ++ [.int (m' : Int)]) = .tuple ((r ++ [(m' : Int)]).map .int)
            rw [List.map_append]
            rfl
          · rw [hlg]
            have f1 : ((upI 0 m').filter fun x => decide ((r.count x : Int) < gI as x)).length ≤ 5 := Nat.le_trans (List.length_filter_le ..) (by simp [upI]; omega)
            simp only [List.length_append, List.length_map]
            omega
          · rw [up1, List.filter_append, List.map_append, ← List.append_assoc, List.filter_cons_of_pos (by rw [gz]; exact w)]
            rfl
        · rw [up1, List.filter_append, List.filter_cons_of_neg (by rw [gz]; simpa using of_decide_eq_false w), List.filter_nil, List.append_nil]
          rfl
      · obtain ⟨t5, rfl⟩ := hI
        refine .inl ⟨_, .inl rfl, _, _, _, rfl, ?_⟩
        have el : ((upI 0 ((as.length : Nat) : Int).toNat).map fun i => Im.d (.int i)).length = as.length := by simp [upI]
        rw [el, tk, List.flatMap_append, List.flatMap_singleton, List.map_append, List.map_map, hlg]
        rfl
    · obtain ⟨lg, t4, t5, rfl, hlg⟩ := hI
      have hlg2 : lg = (asgN as (n + 1)).map tupD := by
        rw [hlg, List.take_of_length_le (by simp)]
        rfl
      subst hlg2
      exact s_mov (n := 3) rfl (by simp) (.inl ⟨_, .inl rfl, _, _, _, _, rfl⟩)
  · obtain ⟨t2, t3, t4, t5, rfl⟩ := hI
    have e : ((upI 0 b.toNat).map fun i => Im.d (.int i)).length = b.toNat := by simp [upI]
    rw [e]
    exact s_retO rfl (.inl rfl)

theorem ok__law_transfer {P : Program} {w : World} {K : PySem.W.Frag} {mg : Str → Option Value} {base : Heap} {f : Addr} {fd : FuncData} (F : Fun K "_law_transfer" "_law_transfer" s__law_transfer f fd) (T : Txt mg) :
    FnOk P w K mg base CX0 1 f fd p__law_transfer (sp__law_transfer K) := by
  refine F.ok sc__law_transfer (fun vs H Q E h => spD_len h (by rintro ds k d ⟨ns, ms, rfl, _⟩; rfl)) (fun cdv A outer s H vs Q E hr h => ⟨_, (pss_one (ps_ret (pe_callB (k_sum (K := K) rfl rfl) rfl T.b_sum (by decide +kernel) (pa_cons (pe_lc rfl sc__law_transfer.nd (k_zip (K := K) rfl rfl T.b_zip (pa_cons (pv 0) (pa_cons (pv 1) pa_nil))) (blkOk_by (own := [("a", 2), ("b", 3)]) (N := n__law_transfer) (sc := defScope s__law_transfer) (by decide +kernel)) (fun _ _ _ _ _ => by exact (k_tup (K := K) (n := 2) rfl rfl (pgs_cons (pg_name (i := 2) sc__law_transfer.nd rfl (Or.inl rfl)) (pgs_cons (pg_name (i := 3) sc__law_transfer.nd rfl (Or.inl rfl)) pgs_nil)))) (fun _ _ _ _ _ => by exact pts_nil) (fun _ _ _ _ _ => by exact (pe_callB (call_max2 rfl) rfl T.b_max (by decide +kernel) (pa_cons pe_int (pa_cons (pe_op op_sub (pv 2) (pv 3)) pa_nil))))) pa_nil)))), run_pure (N := n__law_transfer) (fun ds k d hp => ?_) h⟩)
  obtain ⟨ns, ms, rfl, hl, h1, rfl, rfl⟩ := hp
  refine s_ret (e_sumL (d_lcI (l := ns.zip ms) (en := zipI) (fun p => neg0 p) (i_zipTI (a_consV (d_var rfl) (a_consV (d_var rfl) a_nil))) (by simp; omega) fun p _ => ⟨_, _, g_tup rfl (g_cons g_name (g_cons g_name g_nil)), fun j hj => hj, .v, (e_max2 d_int (d_sub (d_var rfl) (d_var rfl))).to ?_⟩)) (.inr ⟨rfl, rfl⟩) (.inl rfl)
  unfold neg0
  congr 1
  split <;> split <;> omega

theorem ok__law_churn {P : Program} {w : World} {K : PySem.W.Frag} {mg : Str → Option Value} {base : Heap} {f : Addr} {fd : FuncData} (F : Fun K "_law_churn" "_law_churn" s__law_churn f fd) (T : Txt mg) :
    FnOk P w K mg base CX0 1 f fd p__law_churn (sp__law_churn K) := by
  refine F.ok sc__law_churn (fun vs H Q E h => spD_len h (by rintro ds k d ⟨ns, ms, rfl, _⟩; rfl)) (fun cdv A outer s H vs Q E hr h => ⟨_, (pss_one (ps_ret (pe_callB (k_len (K := K) rfl) rfl T.b_len (by decide +kernel) (pa_cons (pe_lc rfl sc__law_churn.nd (pi_range1 rfl T.b_range (pa_cons (pe_callB (k_len (K := K) rfl) rfl T.b_len (by decide +kernel) (pa_cons (pv 0) pa_nil)) pa_nil)) (blkOk_by (own := [("at", 2)]) (N := n__law_churn) (sc := defScope s__law_churn) (by decide +kernel)) (fun _ _ _ _ _ => by exact (pg_name (i := 2) sc__law_churn.nd rfl (Or.inl rfl))) (fun _ _ _ _ _ => by exact (pts_one (pt_cmpR (k_ne (K := K) rfl (rUnits hr)) (pe_ix (k_ix (K := K) rfl) (pv 0) (pv 2) (fun _ _ => rfl)) (pe_ix (k_ix (K := K) rfl) (pv 1) (pv 2) (fun _ _ => rfl)) (nomark _)))) (fun _ _ _ _ _ => by exact (pv 2))) pa_nil)))), run_pure (N := n__law_churn) (fun ds k d hp => ?_) h⟩)
  obtain ⟨ns, ms, rfl, hl, h1, rfl, rfl⟩ := hp
  have e1 : (((ns.map PyData.int).length : Nat) : Int).toNat = ns.length := by simp
  refine s_ret ((d_lenL (d_lc (fun i : Int => !decide (ns.getD i.toNat 0 = ms.getD i.toNat 0)) (fun i => .int i) (i_rng1 (a_cons (d_lenT (d_var rfl)) a_nil) (by simp <;> omega) (by simp <;> omega)) (by simp [upI] <;> omega) fun i hi => ?_)).to ?_) (.inr ⟨rfl, rfl⟩) (.inl rfl)
  · rw [e1, mem_upI] at hi
    obtain ⟨j, rfl⟩ := Int.eq_ofNat_of_zero_le hi.1
    have a1 : atI (ns.map PyData.int) (j : Int) = some (.int (ns.getD (j : Int).toNat 0)) := at_ints (by omega)
    have a2 : atI (ms.map PyData.int) (j : Int) = some (.int (ms.getD (j : Int).toNat 0)) := at_ints (by omega)
    exact ⟨_, _, g_name, fun j hj => hj, t_test (e_neI (e_ixT (d_var rfl) (d_var rfl) a1 rfl) (e_ixT (d_var rfl) (d_var rfl) a2 rfl)), fun _ => (d_var rfl).fo rfl⟩
  · rw [List.length_map, e1, churn_up]

theorem ok__law_changes {P : Program} {w : World} {K : PySem.W.Frag} {mg : Str → Option Value} {base : Heap} {f : Addr} {fd : FuncData} (F : Fun K "_law_changes" "_law_changes" s__law_changes f fd) (T : Txt mg) :
    FnOk P w K mg base CX0 1 f fd p__law_changes (sp__law_changes K) := by
  refine F.ok sc__law_changes (fun vs H Q E h => spD_len h (by rintro ds k d ⟨T, m, rfl, _⟩; rfl)) (fun cdv A outer s H vs Q E hr h => ⟨_, (pss_cons (ps_set (i := 1) sc__law_changes.nd rfl (Or.inl rfl) (pe_lst pa_nil))
      (pss_cons (ps_for PassesOwn.never rfl (pi_range1 rfl T.b_range (pa_cons (pe_callB (k_len (K := K) rfl) rfl T.b_len (by decide +kernel) (pa_cons (pe_ix (k_ix (K := K) rfl) (pv 0) pe_int (fun _ _ => rfl)) pa_nil)) pa_nil)) (pg_name (i := 2) sc__law_changes.nd rfl (Or.inr rfl)) (pss_one (ps_expr (k_bm (K := K) rfl PySem.F.plainAttrs_list PySem.F.slot_list_append PySem.F.type_list_append mt_append (pv 1) (pa_cons (pe_callB (k_len (K := K) rfl) rfl T.b_len (by decide +kernel) (pa_cons (pe_lc rfl sc__law_changes.nd (pi_range1 rfl T.b_range (pa_cons (pe_op op_sub (pe_callB (k_len (K := K) rfl) rfl T.b_len (by decide +kernel) (pa_cons (pv 0) pa_nil)) pe_int) pa_nil)) (blkOk_by (own := [("step", 3)]) (N := n__law_changes) (sc := defScope s__law_changes) (by decide +kernel)) (fun _ _ _ _ _ => by exact (pg_name (i := 3) sc__law_changes.nd rfl (Or.inl rfl))) (fun _ _ _ _ _ => by exact (pts_one (pt_cmpR (k_ne (K := K) rfl (rUnits hr)) (pe_ix (k_ix (K := K) rfl) (pe_ix (k_ix (K := K) rfl) (pv 0) (pv 3) (fun _ _ => rfl)) (pv 2) (fun _ _ => rfl)) (pe_ix (k_ix (K := K) rfl) (pe_ix (k_ix (K := K) rfl) (pv 0) (pe_op (k_add (K := K) rfl) (pv 3) pe_int) (fun _ _ => rfl)) (pv 2) (fun _ _ => rfl)) (nomark _)))) (fun _ _ _ _ _ => by exact (pv 3))) pa_nil)) pa_nil)))))
      (pss_one (ps_ret (pe_callTy (k_tuple (K := K) rfl) rfl T.b_tuple (by decide +kernel) (pa_cons (pv 1) pa_nil)))))), run_pure (N := n__law_changes) (fun ds k d hp => ?_) h⟩)
  obtain ⟨T, m, rfl, h1, h2, hm, hl, rfl, rfl⟩ := hp
  have at' : ∀ {i}, i < T.length → (T.getD i []).length = m := fun {i} hi => by
    rw [List.getD_eq_getElem?_getD, List.getElem?_eq_getElem hi]
    exact hl _ (List.getElem_mem hi)
  refine q_asgO (d := .list (([] : List Int).map .int)) (d_lst (kv := false) (ds := []) a_nil rfl (by decide)) ?_
  refine q_for (i_rng1 (n := (m : Int)) (a_cons ((d_lenT (e_ixT (d_var rfl) d_int (at_tup (j := 0) (by omega)) (flatT _))).to (by rw [List.length_map, at' (by omega)])) a_nil) (by omega) (by omega))
    (fun n Γ1 => ∃ t2 t3, Γ1 = [some (.v (.tuple (T.map tupD))), some (.o (.list ((chgL T n).map .int))), t2, t3]) ⟨_, _, rfl⟩ (fun n a Γ1 hn' hI => ?_) (fun Γ1 hI => ?_)
  · obtain ⟨t2, t3, rfl⟩ := hI
    obtain ⟨hn, rfl⟩ := upI_at hn'
    refine ⟨_, _, g_name, s_app rfl (d := .int (((prs T).countP fun p => !decide (p.1.getD n 0 = p.2.getD n 0) : Nat) : Int)) ((d_lenL (d_lc (l := upI 0 (T.length - 1)) (en := imI) (fun i => !decide ((T.getD i.toNat []).getD n 0 = (T.getD (i.toNat + 1) []).getD n 0)) (fun i => .int i) (i_rng1' (n := (T.length : Int) - 1) (a_cons ((d_sub (d_lenT (d_var rfl)) d_int).to (by rw [List.length_map])) a_nil) (by omega) (by omega) (by congr 2; omega)) (by simp [upI]; omega) fun i hi => ?_)).to ?_) rfl (by simp [chgL]; omega) (.inl ⟨_, .inl rfl, some (.v (.int (n : Int))), t3, ?_⟩)⟩
    · rw [mem_upI] at hi
      obtain ⟨j, rfl⟩ := Int.eq_ofNat_of_zero_le hi.1
      refine ⟨_, _, g_name, fun j hj => hj, t_test (e_neI (e_ixT (e_ixT (d_var rfl) (d_var rfl) (at_tup (by omega)) (flatT _)) (d_var rfl) (at_ints (by rw [at' (by omega)]; omega)) rfl) (e_ixT (e_ixT (d_var rfl) (e_add (d_var rfl) d_int) (at_tup1 (by omega)) (flatT _)) (d_var rfl) (at_ints (by rw [at' (by omega)]; omega)) rfl)), fun _ => (d_var rfl).fo rfl⟩
    · rw [prs_rng, List.countP_map, List.length_map, ← List.countP_eq_length_filter, upI0, List.countP_map]
      rfl
    · have e : chgL T (n + 1) = chgL T n ++ [(((prs T).countP fun p => !decide (p.1.getD n 0 = p.2.getD n 0) : Nat) : Int)] := by simp [chgL, List.range_succ]
      rw [e, List.map_append]
      rfl
  · obtain ⟨t2, t3, rfl⟩ := hI
    have e : ((upI 0 (m : Int).toNat).map fun i => Im.d (.int i)).length = m := by simp [upI]
    rw [e]
    exact s_ret (d_tuple (d_varO rfl) (flatAll_ints _)) (.inr ⟨rfl, flatT _⟩) (.inl rfl)

theorem ok__law_small_series {P : Program} {w : World} {K : PySem.W.Frag} {mg : Str → Option Value} {base : Heap} {f : Addr} {fd : FuncData} (F : Fun K "_law_small_series" "_law_small_series" s__law_small_series f fd) (T : Txt mg) (c__law_series : Cal P w K mg base CX0 3 "_law_series" p__law_series (sp__law_seriesN K)) (c__law_next : Cal P w K mg base CX0 1 "_law_next" p__law_next (sp__law_next K)) :
    FnOk P w K mg base CX0 4 f fd p__law_small_series (sp__law_small_series48 K) := by
  refine F.ok sc__law_small_series (fun vs H Q E h => spS_len h (by rintro ds k P ⟨rfl, _⟩; rfl)) (fun cdv A outer s H vs Q E hr h => ⟨_, (pss_cons (ps_set (i := 1) sc__law_small_series.nd rfl (Or.inl rfl) (pe_op (k_add (K := K) rfl) pe_int (pe_cal c__law_next (hr.mono (by decide)) rfl pass0 (pa_cons (pv 0) (pa_cons pe_int pa_nil)))))
      (pss_cons (ps_asg (pe_ix (k_ix (K := K) rfl) (pe_lst (pa_cons (pe_tupN (pa_cons pe_int (pa_cons pe_int pa_nil))) (pa_cons (pe_tupN (pa_cons pe_int (pa_cons pe_int pa_nil))) (pa_cons (pe_tupN (pa_cons pe_int (pa_cons pe_int pa_nil))) (pa_cons (pe_tupN (pa_cons pe_int (pa_cons pe_int pa_nil))) (pa_cons (pe_tupN (pa_cons pe_int (pa_cons pe_int pa_nil))) (pa_cons (pe_tupN (pa_cons pe_int (pa_cons pe_int pa_nil))) (pa_cons (pe_tupN (pa_cons pe_int (pa_cons pe_int pa_nil))) (pa_cons (pe_tupN (pa_cons pe_int (pa_cons pe_int pa_nil))) pa_nil))))))))) (pe_cal c__law_next (hr.mono (by decide)) rfl pass0 (pa_cons (pv 0) (pa_cons pe_int pa_nil))) (fun _ _ => rfl)) (k_tupA (K := K) (n := 2) rfl rfl (pgs_cons (pg_name (i := 2) sc__law_small_series.nd rfl (Or.inl rfl)) (pgs_cons (pg_name (i := 3) sc__law_small_series.nd rfl (Or.inl rfl)) pgs_nil))))
      (pss_one (ps_ret (pe_cal c__law_series (hr.mono (by decide)) rfl pass0 (pa_cons (pv 0) (pa_cons (pv 1) (pa_cons (pv 2) (pa_cons (pe_op (k_add (K := K) rfl) pe_int (pe_cal c__law_next (hr.mono (by decide)) rfl pass0 (pa_cons (pv 0) (pa_cons (pv 3) pa_nil)))) pa_nil))))))))), run_str (N := n__law_small_series) (fun st l ds k P' hp => ?_) h⟩)
  obtain ⟨rfl, rfl, rfl⟩ := hp
  refine q_asgN (SomeI fun v => 2 ≤ v ∧ v ≤ 4) (n_add (d_int.sm (Q := fun m => m = 2) rfl) (n_call (st := st) (l := l) rfl rfl (a_cons d_int a_nil) ⟨3, rfl, by decide, by decide, rfl, rfl⟩) fun m n hm hn => by omega) ?_
  rintro d ⟨v, rfl, v2, v4⟩
  refine q_unp (fun d => ∃ B M : Nat, d = .tuple [.int (B : Int), .int (M : Int)] ∧ 1 ≤ M ∧ B ≤ 4 ∧ M ≤ 6 ∧ ∀ k, k < M → (B ^ B) ^ k ≤ 65536) (n_ixL (Pa := fun d => d = .list [.tuple [.int 2, .int 6], .tuple [.int 3, .int 4], .tuple [.int 3, .int 3], .tuple [.int 4, .int 3], .tuple [.int 2, .int 5], .tuple [.int 1, .int 6], .tuple [.int 4, .int 2], .tuple [.int 0, .int 3]]) (Q := fun i => 0 ≤ i ∧ i < 8) ((d_lst (kv := false) ?_ rfl (by simp)).n) (n_call (st := st) (l := l) rfl rfl (a_cons d_int a_nil) ⟨8, rfl, by decide, by decide, rfl, rfl⟩) (fun x i hx hi => ?_)) ?_
  · have tp : ∀ {Γ : List (Option Rs)} (i j : Int), Ev (sc K st l) (tTupN (tCons (tC (.int i)) (tCons (tC (.int j)) tNil))) Γ .v (.tuple [.int i, .int j]) := fun i j => d_tup (a_consV d_int (a_consV d_int a_nil)) (by simp)
    exact a_cons (tp _ _) (a_cons (tp _ _) (a_cons (tp _ _) (a_cons (tp _ _) (a_cons (tp _ _) (a_cons (tp _ _) (a_cons (tp _ _) (a_cons (tp _ _) a_nil)))))))
  · subst hx
    obtain ⟨j, rfl⟩ := Int.eq_ofNat_of_zero_le hi.1
    have hj : j < 8 := by omega
    refine ⟨_, _, rfl, atI_nat (List.getElem?_eq_getElem (by simpa using hj)), ?_⟩
    match j, hj with
    | 0, _ => exact ⟨rfl, 2, 6, rfl, by decide⟩
    | 1, _ => exact ⟨rfl, 3, 4, rfl, by decide⟩
    | 2, _ => exact ⟨rfl, 3, 3, rfl, by decide⟩
    | 3, _ => exact ⟨rfl, 4, 3, rfl, by decide⟩
    | 4, _ => exact ⟨rfl, 2, 5, rfl, by decide⟩
    | 5, _ => exact ⟨rfl, 1, 6, rfl, by decide⟩
    | 6, _ => exact ⟨rfl, 4, 2, rfl, by decide⟩
    | 7, _ => exact ⟨rfl, 0, 3, rfl, by decide⟩
  rintro d ⟨B, M, rfl, m1, okB⟩
  have b4 := okB.1
  have m6 := okB.2.1
  refine ⟨_, _, _, .inl rfl, rfl, rfl, g_cons g_name (g_cons g_name g_nil), ?_⟩
  refine s_retN _ (n_callN3 (st := st) (l := l) (Pa := SomeI fun n => 1 ≤ n ∧ n ≤ (M : Int)) rfl rfl (d_var rfl) (d_var rfl) (n_add (d_int.sm (Q := fun m => m = 1) rfl) (n_call (st := st) (l := l) rfl rfl (a_cons (d_var rfl) a_nil) ⟨(M : Int), rfl, by omega, by omega, rfl, rfl⟩) fun i j hi hj => by omega) (by rintro z ⟨n, rfl, n1, n2⟩; exact ⟨v, (B : Int), n, (M : Int), rfl, by omega, by omega, by omega, by omega, n1, by omega, n2, rfl, rfl⟩)) (.inr ⟨rfl, ?_⟩) ?_
  · rintro d ⟨A, rfl, _⟩
    exact fl_rows A
  · rintro d ⟨A, rfl, h, hl⟩
    exact ⟨_, rfl, A, v, (B : Int), rfl, smC_of h v4 rfl (by omega) okB⟩
end W

namespace W
open PySem PySem.Spec PyProof.Rows L2 Lm
theorem ok_law {P : Program} {w : World} {K : PySem.W.Frag} {mg : Str → Option Value} {base : Heap} {f : Addr} {fd : FuncData} (F : Fun K "law" "law" s_law f fd) (T : Txt mg) (c__law_stream : Cal P w K mg base CX0 1 "_law_stream" p__law_stream (sp__law_stream K)) (c__law_small_series : Cal P w K mg base CX0 4 "_law_small_series" p__law_small_series (sp__law_small_series48 K)) (c_calm_history : Cal P w K mg base CX0 8 "calm_history" p_calm_history (sp_calm_history K)) (c__law_transfer : Cal P w K mg base CX0 1 "_law_transfer" p__law_transfer (sp__law_transfer K)) (c__law_assignments : Cal P w K mg base CX0 1 "_law_assignments" p__law_assignments (sp__law_assignmentsA K)) (c__law_equal : Cal P w K mg base CX0 10 "_law_equal" p__law_equal (sp__law_equal K)) (c__law_sorted : Cal P w K mg base CX0 1 "_law_sorted" p__law_sorted (sp__law_sortedR K)) (c_overdrawn : Cal P w K mg base CX0 7 "overdrawn" p_overdrawn (sp_overdrawn K)) (c__law_churn : Cal P w K mg base CX0 1 "_law_churn" p__law_churn (sp__law_churn K)) (c__law_changes : Cal P w K mg base CX0 1 "_law_changes" p__law_changes (sp__law_changes K)) :
    FnOk P w K mg base CX0 11 f fd p_law (spLaw K) := by
  refine F.ok sc_law (fun vs H Q E h => by obtain ⟨a, ns, rfl, _⟩ := h; rfl) (fun cdv A outer s H vs Q E hr h => ⟨_, (pss_cons (ps_set (i := 1) sc_law.nd rfl (Or.inl rfl) (pe_cal c__law_stream (hr.mono (by decide)) rfl pass0 (pa_cons (pv 0) pa_nil)))
      (pss_cons (ps_set (i := 2) sc_law.nd rfl (Or.inl rfl) (pe_cal c__law_small_series (hr.mono (by decide)) rfl pass0 (pa_cons (pv 1) pa_nil)))
      (pss_cons (ps_set (i := 3) sc_law.nd rfl (Or.inl rfl) (pe_lst (pa_cons (pe_tupN (pa_cons (pe_cal c__law_sorted (hr.mono (by decide)) rfl pass0 (pa_cons (pe_ix (k_ix (K := K) rfl) (pv 2) pe_int (fun _ _ => rfl)) pa_nil)) pa_nil)) pa_nil)))
      (pss_cons (ps_for PassesOwn.never rfl (pi_range1 rfl T.b_range (pa_cons (pe_op op_sub (pe_callB (k_len (K := K) rfl) rfl T.b_len (by decide +kernel) (pa_cons (pv 2) pa_nil)) pe_int) pa_nil)) (pg_name (i := 4) sc_law.nd rfl (Or.inl rfl)) (pss_cons (ps_set (i := 5) sc_law.nd rfl (Or.inl rfl) (pe_cal c__law_transfer (hr.mono (by decide)) rfl pass0 (pa_cons (pe_ix (k_ix (K := K) rfl) (pv 2) (pv 4) (fun _ _ => rfl)) (pa_cons (pe_ix (k_ix (K := K) rfl) (pv 2) (pe_op (k_add (K := K) rfl) (pv 4) pe_int) (fun _ _ => rfl)) pa_nil))))
      (pss_cons (ps_set (i := 6) sc_law.nd rfl (Or.inl rfl) (pe_cal c__law_assignments (hr.mono (by decide)) rfl pass0 (pa_cons (pe_ix (k_ix (K := K) rfl) (pv 2) (pe_op (k_add (K := K) rfl) (pv 4) pe_int) (fun _ _ => rfl)) pa_nil)))
      (pss_cons (ps_set (i := 7) sc_law.nd rfl (Or.inl rfl) (pe_lst pa_nil))
      (pss_cons (ps_for PassesOwn.never rfl (k_seq (K := K) rfl (pv 3)) (pg_name (i := 8) sc_law.nd rfl (Or.inl rfl)) (pss_one (ps_for PassesOwn.never rfl (k_seq (K := K) rfl (pv 6)) (pg_name (i := 9) sc_law.nd rfl (Or.inl rfl)) (pss_one (ps_if (PW.pt (pw_and (pt_cmpR (k_eq (K := K) rfl (rUnits hr)) (pe_cal c__law_churn (hr.mono (by decide)) rfl pass0 (pa_cons (pe_ix (k_ix (K := K) rfl) (pv 8) (pe_un un_neg pe_int) (fun _ _ => rfl)) (pa_cons (pv 9) pa_nil))) (pv 5) (nomark _)) (pw_and1 (pt_cmpR op_lt (pe_callB (k_maxTU (K := K) rfl rfl (rUnits hr)) rfl T.b_max (by decide +kernel) (pa_cons (pe_op (k_add (K := K) rfl) (pe_cal c__law_changes (hr.mono (by decide)) rfl pass0 (pa_cons (pe_op (k_add (K := K) rfl) (pv 8) (pe_tupN (pa_cons (pv 9) pa_nil))) pa_nil)) (pe_tupN (pa_cons pe_int pa_nil))) pa_nil)) pe_int (nomark _))))) (pss_one (ps_expr (k_bm (K := K) rfl PySem.F.plainAttrs_list PySem.F.slot_list_append PySem.F.type_list_append mt_append (pv 7) (pa_cons (pe_op (k_add (K := K) rfl) (pv 8) (pe_tupN (pa_cons (pv 9) pa_nil))) pa_nil)))) pss_nil)))))
      (pss_one (ps_set (i := 3) sc_law.nd rfl (Or.inl rfl) (pv 7))))))))
      (pss_cons (ps_set (i := 10) sc_law.nd rfl (Or.inl rfl) (pe_cal c_calm_history (hr.mono (by decide)) rfl pass0 (pa_cons (pv 2) pa_nil)))
      (pss_cons (ps_set (i := 5) sc_law.nd rfl (Or.inl rfl) pe_non)
      (pss_cons (ps_if (k_tru (K := K) rfl (pv 3)) (pss_one (ps_set (i := 5) sc_law.nd rfl (Or.inl rfl) (pe_callB (k_minDL (K := K) rfl rfl (rUnits hr)) rfl T.b_min (by decide +kernel) (pa_cons (pv 3) pa_nil)))) pss_nil)
      (pss_one (ps_ret (pe_and (pe_cal c__law_equal (hr.mono (by decide)) rfl pass0 (pa_cons (pv 10) (pa_cons (pv 5) pa_nil))) (pe_one (pe_cmpR (k_eq (K := K) rfl (rUnits hr)) (pe_cmpR op_isN (pv 10) pe_non (nomark _)) (pe_cmpR op_notN (pe_cal c_overdrawn (hr.mono (by decide)) rfl pass0 (pa_cons (pv 2) pa_nil)) pe_non (nomark _)) (nomark _))))))))))))), run_law (N := n_law) (by decide) (fun st l => ?_) h⟩)
  refine q_asgN (fun d => ∃ A v b, d = .tuple (A.map tupD) ∧ SmC A v b) (n_call (st := st) (l := l) rfl rfl a_nil ⟨rfl, rfl, rfl⟩) ?_
  rintro d ⟨A, v, b, rfl, hS⟩
  have h := hS.ser
  have v4 := hS.v4
  have b4 := hS.b4
  have l6 := hS.l6
  have v1 := h.v1
  have h1 := h.l1
  have l0 := (h.at (i := 0) (by omega)).sum
  have b0 : 0 ≤ b := by rw [← l0]; exact sum_nn (h.at (i := 0) (by omega)).nn
  obtain ⟨s1, s2, s3⟩ := stA_ok h
  obtain ⟨s, es⟩ : ∃ s, s = stA v A := ⟨_, rfl⟩
  rw [← es] at s1 s2 s3
  have ok := calR_ok h s1 s2 s3
  have sz : ∀ k, k < A.length → (calR A b s k).length ≤ 65536 := fun k hk => Nat.le_trans (calR_len h k hk) (hS.big k hk)
  refine q_asgO (d := .list ((calR A b s 0).map tblD)) (Ev.to (d_lst (kv := false) (a_cons (d_tup (a_consV (d_call (k := .v) (a_cons (e_ixT (d_var rfl) d_int (at_tup (j := 0) (by omega)) (flatT _)) a_nil) ⟨A.getD 0 [], v, b, rfl, h.at (by omega), v1, by omega, by omega, rfl, rfl⟩) a_nil) (by simp)) a_nil) (by simp [flatAll, flatD, flatAll_ints]) (by simp)) (by rw [es]; rfl)) ?_
  refine q_for (i_rng1 (n := (A.length : Int) - 1) (a_cons ((d_sub (d_lenT (d_var rfl)) d_int).to (by rw [List.length_map])) a_nil) (by omega) (by omega))
    (fun n Γ1 => ∃ t4 t5 t6 t7 t8 t9, Γ1 = [none, some (.r (.ref st)), some (.v (.tuple (A.map tupD))), some (.o (.list ((calR A b s n).map tblD))), t4, t5, t6, t7, t8, t9, none]) ⟨_, _, _, _, _, _, rfl⟩ (fun n a Γ1 hn' hI => ?_) (fun Γ1 hI => ?_)
  · obtain ⟨t4, t5, t6, t7, t8, t9, rfl⟩ := hI
    obtain ⟨hn, rfl⟩ := upI_at hn'
    have a1 := h.at (i := n) (by omega)
    have a2 := h.at (i := n + 1) (by omega)
    have small := asgN_small (n := b.toNat) a2.nn (by have := a2.len; omega) (by omega)
    obtain ⟨W, eW⟩ : ∃ W, W = asgN (A.getD (n + 1) []) b.toNat := ⟨_, rfl⟩
    obtain ⟨R, eR⟩ : ∃ R, R = calR A b s n := ⟨_, rfl⟩
    have R1 : calR A b s (n + 1) = R.flatMap fun t => (W.filter (calP A b.toNat n t)).map fun r => t ++ [r] := by rw [eR, eW]; rfl
    have sz1 := sz (n + 1) (by omega)
    have okR : ∀ t ∈ R, CalT v b s A n t := fun t ht => ok n (by omega) t (eR ▸ ht)
    have okW : ∀ r ∈ W, (r.length : Int) = b := fun r hr => (asgN_cnt a2 (eW ▸ hr)).1
    rw [← eW] at small
    rw [← eR]
    refine ⟨_, _, g_name, q_asg (d := .int (trI (A.getD n []) (A.getD (n + 1) []))) (d_call (k := .v) (a_cons (e_ixT (d_var rfl) (d_var rfl) (at_tup (by omega)) (flatT _)) (a_cons (e_ixT (d_var rfl) (e_add (d_var rfl) d_int) (at_tup1 (by omega)) (flatT _)) a_nil)) ⟨A.getD n [], A.getD (n + 1) [], rfl, a1.lens a2, by have := a1.len; omega, rfl, rfl⟩) ?_⟩
    refine q_asgO (d := .list (W.map tupD)) (d_call (k := .o) (a_cons (e_ixT (d_var rfl) (e_add (d_var rfl) d_int) (at_tup1 (by omega)) (flatT _)) a_nil) ⟨A.getD (n + 1) [], v, b, rfl, a2, by omega, by omega, by omega, rfl, by rw [eW]⟩) ?_
    refine q_asgO (d_lst (kv := false) (ds := []) a_nil rfl (by decide)) ?_
    refine s_freeze (n := 6) rfl ?_
    refine s_freeze (n := 3) rfl ?_
    refine q_for (i_seqL' (items := R.map fun t => Im.d (tblD t)) (d_var rfl) kv_ne (by rw [List.map_map]; rfl))
      (fun m Γ1 => ∃ lg t8 t9, Γ1 = [none, some (.r (.ref st)), some (.v (.tuple (A.map tupD))), some (.v (.list (R.map tblD))), some (.v (.int (n : Int))), some (.v (.int (trI (A.getD n []) (A.getD (n + 1) [])))), some (.v (.list (W.map tupD))), some (.o (.list (lg.map tblD))), t8, t9, none] ∧ lg = (R.take m).flatMap fun t => (W.filter (calP A b.toNat n t)).map fun r => t ++ [r]) ⟨[], _, _, rfl, rfl⟩ (fun m a Γ1 hm' hI => ?_) (fun Γ1 hI => ?_)
    · obtain ⟨lg, t8, t9, rfl, hlg⟩ := hI
      have hml : m < R.length := by have := (List.getElem?_eq_some_iff.mp hm').1; simpa using this
      obtain ⟨t, et⟩ : ∃ t, t = R[m] := ⟨_, rfl⟩
      have ha : a = .d (tblD t) := by
        rw [List.getElem?_map, List.getElem?_eq_getElem hml, ← et] at hm'
        exact (Option.some.inj hm').symm
      subst ha
      have ht := okR t (et ▸ List.getElem_mem hml)
      have tl := ht.len
      have tk : R.take (m + 1) = R.take m ++ [t] := by rw [List.take_add_one, List.getElem?_eq_getElem hml, et]; rfl
      have le : ((R.take (m + 1)).flatMap fun t => (W.filter (calP A b.toNat n t)).map fun r => t ++ [r]).length ≤ 65536 := by
        have e : calR A b s (n + 1) = ((R.take (m + 1)).flatMap fun t => (W.filter (calP A b.toNat n t)).map fun r => t ++ [r]) ++ ((R.drop (m + 1)).flatMap fun t => (W.filter (calP A b.toNat n t)).map fun r => t ++ [r]) := by
          rw [← List.flatMap_append, List.take_append_drop, R1]
        rw [e, List.length_append] at sz1
        omega
      rw [tk, List.flatMap_append, List.flatMap_singleton, List.length_append, ← hlg, List.length_map] at le
      have fm : t.getD n [] ∈ t := gL_mem (by omega)
      have fl := (ht.row _ fm).2
      have atl : atI (t.map tupD) (-1) = some (tupD (t.getD n [])) := by
        rw [at_tupL (by omega), tl]
        rfl
      refine ⟨_, _, g_name, s_for (i_rows (d_var rfl) kv_ne)
        (fun m' Γ1 => ∃ t9, Γ1 = [none, some (.r (.ref st)), some (.v (.tuple (A.map tupD))), some (.v (.list (R.map tblD))), some (.v (.int (n : Int))), some (.v (.int (trI (A.getD n []) (A.getD (n + 1) [])))), some (.v (.list (W.map tupD))), some (.o (.list ((lg ++ ((W.take m').filter (calP A b.toNat n t)).map fun r => t ++ [r]).map tblD))), some (.v (tblD t)), t9, none]) ⟨t9, by simp⟩ (fun m' a Γ1 hm2 hI => ?_) (fun Γ1 hI => ?_)⟩
      · obtain ⟨t9, rfl⟩ := hI
        have hmv : m' < W.length := by have := (List.getElem?_eq_some_iff.mp hm2).1; simpa using this
        obtain ⟨r, er⟩ : ∃ r, r = W[m'] := ⟨_, rfl⟩
        have ha : a = tupI r := by
          rw [List.getElem?_map, List.getElem?_eq_getElem hmv, ← er] at hm2
          exact (Option.some.inj hm2).symm
        subst ha
        have rl := okW r (er ▸ List.getElem_mem hmv)
        have tk2 : W.take (m' + 1) = W.take m' ++ [r] := by rw [List.take_add_one, List.getElem?_eq_getElem hmv, er]; rfl
        have lw : ((W.take m').filter (calP A b.toNat n t)).length ≤ 15625 := Nat.le_trans (List.length_filter_le _ _) (by rw [List.length_take]; omega)
        obtain ⟨x, ns, ex⟩ : ∃ x ns, chgL (t ++ [r]) b.toNat ++ [0] = x :: ns := by
          cases e : chgL (t ++ [r]) b.toNat ++ [0] with
          | nil => simp at e
          | cons x ns => exact ⟨x, ns, rfl⟩
        have cl : (chgL (t ++ [r]) b.toNat).length ≤ 4 := by simp [chgL]; omega
        have e9 : Ev (sc K st l) _ [none, some (.r (.ref st)), some (.v (.tuple (A.map tupD))), some (.v (.list (R.map tblD))), some (.v (.int (n : Int))), some (.v (.int (trI (A.getD n []) (A.getD (n + 1) [])))), some (.v (.list (W.map tupD))), some (.o (.list ((lg ++ ((W.take m').filter (calP A b.toNat n t)).map fun r => t ++ [r]).map tblD))), some (.v (tblD t)), some (.v (tupD r)), none] .v (tblD (t ++ [r])) := (e_catT (d_var (n := 8) rfl) (d_tup (a_consV (d_var (n := 9) rfl) a_nil) (by simp)) (by simp; omega)).to tbl_app
        refine ⟨_, _, g_name, s_if (a := calP A b.toNat n t r) (EvT.to (t_and (a := decide (zs ne1 (t.getD n []) r = trI (A.getD n []) (A.getD (n + 1) []))) (b := decide (mxT (chgL (t ++ [r]) b.toNat ++ [0]) < 2)) (t_test (e_eqI (d_call (k := .v) (a_cons (e_ixT (d := tupD (t.getD n [])) (d_var rfl) (e_neg d_int) atl (flatT _)) (a_cons (d_var rfl) a_nil)) ⟨t.getD n [], r, rfl, by omega, by omega, rfl, rfl⟩) (d_var rfl))) fun _ => EvT.to (t_test (d_lt (e_maxTI (x := x) (ns := ns) (Ev.to (e_catT (ds := (chgL (t ++ [r]) b.toNat).map .int) (es := [.int 0]) (d_call (k := .v) (a_cons e9 a_nil) ⟨t ++ [r], b.toNat, rfl, by simp, by simp; omega, by omega, fun q hq => by
          rcases List.mem_append.mp hq with w | w
          · have := (ht.row q w).2; omega
          · rw [List.mem_singleton.mp w]; omega, rfl, rfl⟩) (d_tup (a_consV d_int a_nil) (by simp)) (by simp; omega)) (by rw [← ex, List.map_append]; rfl))) d_int)) (by rw [ex]; rfl)) rfl) (fun w => ?_) fun w => s_next (.inl ⟨_, .inl rfl, some (.v (tupD r)), ?_⟩)⟩
        · refine s_app rfl e9 (by exact fl_rows _) ?_ (.inl ⟨_, .inl rfl, some (.v (tupD r)), ?_⟩)
          · simp only [List.length_append, List.length_map]
            omega
          · have eA : ((lg ++ ((W.take (m' + 1)).filter (calP A b.toNat n t)).map fun r => t ++ [r]).map tblD) = ((lg ++ ((W.take m').filter (calP A b.toNat n t)).map fun r => t ++ [r]).map tblD) ++ [tblD (t ++ [r])] := by
              rw [tk2, List.filter_append, List.filter_cons_of_pos w]
              simp
            rw [eA]
            rfl
        · rw [tk2, List.filter_append, List.filter_cons_of_neg (by rw [w]; decide), List.filter_nil, List.append_nil]
          rfl
      · obtain ⟨t9, rfl⟩ := hI
        refine .inl ⟨_, .inl rfl, _, some (.v (tblD t)), t9, rfl, ?_⟩
        rw [List.length_map, List.take_length, tk, List.flatMap_append, List.flatMap_singleton, ← hlg]
    · obtain ⟨lg, t8, t9, rfl, hlg⟩ := hI
      rw [List.length_map, List.take_length, ← R1] at hlg
      subst hlg
      exact s_mov (n := 7) rfl (by simp) (.inl ⟨_, .inl rfl, _, _, _, _, _, _, rfl⟩)
  · obtain ⟨t4, t5, t6, t7, t8, t9, rfl⟩ := hI
    have eN : ((upI 0 ((A.length : Int) - 1).toNat).map fun i => Im.d (.int i)).length = A.length - 1 := by
      simp [upI]
    rw [eN]
    have is := calm_is h s1 s2 s3
    rw [es] at is
    refine q_asg (d := calmD v A) (d_call (k := .v) (a_cons (d_var rfl) a_nil) ⟨A, v, b, rfl, h, rfl, rfl⟩) ?_
    refine q_asg (d := .none) d_non ?_
    rcases is with ⟨no, ⟨rest, e⟩, le⟩ | ⟨no, e⟩
    · have eD : calmD v A = tblD (hisC v A (stA v A) (A.length - 1)) := by unfold calmD; rw [if_pos no]
      rw [eD, es, e]
      rw [es] at ok
      have rows : ∀ t ∈ hisC v A (stA v A) (A.length - 1) :: rest, t.length ≤ 6 ∧ ∀ r ∈ t, r.length ≤ 4 := fun t ht => by
        have := ok (A.length - 1) (by omega) t (by rw [e]; exact ht)
        exact ⟨by have := this.len; omega, fun r hr => by have := (this.row r hr).2; omega⟩
      rw [e] at le
      have rH := rows (hisC v A (stA v A) (A.length - 1)) (by simp)
      have ok7 : EqOk 7 (tblD (hisC v A (stA v A) (A.length - 1))) := .tup (by rw [List.length_map]; have := rH.1; omega) fun x hx => by
        obtain ⟨r, hr, rfl⟩ := List.mem_map.mp hx
        exact .ints (by have := rH.2 r hr; omega)
      refine q_if (a := true) ((t_truL (ds := (hisC v A (stA v A) (A.length - 1) :: rest).map tblD) (d_varO rfl)).to rfl) (fun _ => ?_) fun e => nomatch e
      refine q_asg (d := tblD (hisC v A (stA v A) (A.length - 1))) (e_minDL (d := tblD (hisC v A (stA v A) (A.length - 1))) (ds := rest.map tblD) (d_varO rfl) (fl_tbl (_ :: rest)) (alike_tbls (_ :: rest)) (depth_tbls (_ :: rest)) (minD_head fun x hx => by
        obtain ⟨t, ht, rfl⟩ := List.mem_map.mp hx
        exact tle_lt (le t (by simp [ht])))) ?_
      refine s_ret ((d_andV (d_call (E := E0) (k := .v) (d := .bool true) (a_cons (d_var rfl) (a_cons (d_var rfl) a_nil)) ⟨_, rfl, ok7, rfl, rfl⟩) fun _ => e_eqB (d_isN (d_var rfl)) (d_notN (d_call (k := .v) (d := natD (ovr A v.toNat)) (a_cons (d_var rfl) a_nil) ⟨A, v, b, rfl, h, rfl, rfl⟩))).to ?_) (.inr ⟨rfl, rfl⟩) rfl
      rw [no]
      rfl
    · have eD : calmD v A = .none := by unfold calmD; rw [if_neg no]
      rw [eD, es, e]
      refine q_no ((t_truL (ds := []) (d_varO rfl)).to rfl) ?_
      refine s_ret ((d_andV (d_call (E := E0) (k := .v) (d := .bool true) (a_cons (d_var rfl) (a_cons (d_var rfl) a_nil)) ⟨_, rfl, .non, rfl, rfl⟩) fun _ => e_eqB (d_isN (d_var rfl)) (d_notN (d_call (k := .v) (d := natD (ovr A v.toNat)) (a_cons (d_var rfl) a_nil) ⟨A, v, b, rfl, h, rfl, rfl⟩))).to ?_) (.inr ⟨rfl, rfl⟩) rfl
      cases q : ovr A v.toNat with
      | none => exact absurd q no
      | some i => rfl

end W

namespace W
open PySem PySem.Spec PyProof.Rows L2 Lm
theorem all_mk {l : PySem.W.OpenLaw} {w : World} {K : PySem.W.Frag} {h : Heap} {mg : Str → Option Value} {fa : Addr} (X : K.In h) (G : h.Ns mainGlobals mg) (hfa : mg "law" = some (.ref fa))
    {od_is_integer an_is_integer : Option Addr} {sl_is_integer : Array (Option Value)} {oc_is_integer kV_is_integer dc_is_integer pm_is_integer cd_is_integer ct_is_integer : Value} {f_is_integer : Addr}
    (a_is_integer : PySem.W.nsIn K mainGlobals "is_integer" = some (some (.ref f_is_integer))) (l_is_integer : K.lookup f_is_integer = some ⟨oc_is_integer, od_is_integer, .func (PySem.W.fnOf "is_integer" "is_integer" (defArgs s_is_integer) (defBody s_is_integer) (defScope s_is_integer) .none kV_is_integer dc_is_integer pm_is_integer an_is_integer cd_is_integer ct_is_integer), sl_is_integer⟩) (o_is_integer : PySem.W.codeIn K cd_is_integer "is_integer" = true) (k_is_integer : PySem.W.keepIn K (.ref f_is_integer) = true)
    {od_are_integers an_are_integers : Option Addr} {sl_are_integers : Array (Option Value)} {oc_are_integers kV_are_integers dc_are_integers pm_are_integers cd_are_integers ct_are_integers : Value} {f_are_integers : Addr}
    (a_are_integers : PySem.W.nsIn K mainGlobals "are_integers" = some (some (.ref f_are_integers))) (l_are_integers : K.lookup f_are_integers = some ⟨oc_are_integers, od_are_integers, .func (PySem.W.fnOf "are_integers" "are_integers" (defArgs s_are_integers) (defBody s_are_integers) (defScope s_are_integers) .none kV_are_integers dc_are_integers pm_are_integers an_are_integers cd_are_integers ct_are_integers), sl_are_integers⟩) (o_are_integers : PySem.W.codeIn K cd_are_integers "are_integers" = true) (k_are_integers : PySem.W.keepIn K (.ref f_are_integers) = true)
    {od_require an_require : Option Addr} {sl_require : Array (Option Value)} {oc_require kV_require dc_require pm_require cd_require ct_require : Value} {f_require : Addr}
    (a_require : PySem.W.nsIn K mainGlobals "require" = some (some (.ref f_require))) (l_require : K.lookup f_require = some ⟨oc_require, od_require, .func (PySem.W.fnOf "require" "require" (defArgs s_require) (defBody s_require) (defScope s_require) .none kV_require dc_require pm_require an_require cd_require ct_require), sl_require⟩) (o_require : PySem.W.codeIn K cd_require "require" = true) (k_require : PySem.W.keepIn K (.ref f_require) = true)
    {od_is_allocation an_is_allocation : Option Addr} {sl_is_allocation : Array (Option Value)} {oc_is_allocation kV_is_allocation dc_is_allocation pm_is_allocation cd_is_allocation ct_is_allocation : Value} {f_is_allocation : Addr}
    (a_is_allocation : PySem.W.nsIn K mainGlobals "is_allocation" = some (some (.ref f_is_allocation))) (l_is_allocation : K.lookup f_is_allocation = some ⟨oc_is_allocation, od_is_allocation, .func (PySem.W.fnOf "is_allocation" "is_allocation" (defArgs s_is_allocation) (defBody s_is_allocation) (defScope s_is_allocation) .none kV_is_allocation dc_is_allocation pm_is_allocation an_is_allocation cd_is_allocation ct_is_allocation), sl_is_allocation⟩) (o_is_allocation : PySem.W.codeIn K cd_is_allocation "is_allocation" = true) (k_is_allocation : PySem.W.keepIn K (.ref f_is_allocation) = true)
    {od_is_bounded_allocation an_is_bounded_allocation : Option Addr} {sl_is_bounded_allocation : Array (Option Value)} {oc_is_bounded_allocation kV_is_bounded_allocation dc_is_bounded_allocation pm_is_bounded_allocation cd_is_bounded_allocation ct_is_bounded_allocation : Value} {f_is_bounded_allocation : Addr}
    (a_is_bounded_allocation : PySem.W.nsIn K mainGlobals "is_bounded_allocation" = some (some (.ref f_is_bounded_allocation))) (l_is_bounded_allocation : K.lookup f_is_bounded_allocation = some ⟨oc_is_bounded_allocation, od_is_bounded_allocation, .func (PySem.W.fnOf "is_bounded_allocation" "is_bounded_allocation" (defArgs s_is_bounded_allocation) (defBody s_is_bounded_allocation) (defScope s_is_bounded_allocation) .none kV_is_bounded_allocation dc_is_bounded_allocation pm_is_bounded_allocation an_is_bounded_allocation cd_is_bounded_allocation ct_is_bounded_allocation), sl_is_bounded_allocation⟩) (o_is_bounded_allocation : PySem.W.codeIn K cd_is_bounded_allocation "is_bounded_allocation" = true) (k_is_bounded_allocation : PySem.W.keepIn K (.ref f_is_bounded_allocation) = true)
    {od_are_allocations an_are_allocations : Option Addr} {sl_are_allocations : Array (Option Value)} {oc_are_allocations kV_are_allocations dc_are_allocations pm_are_allocations cd_are_allocations ct_are_allocations : Value} {f_are_allocations : Addr}
    (a_are_allocations : PySem.W.nsIn K mainGlobals "are_allocations" = some (some (.ref f_are_allocations))) (l_are_allocations : K.lookup f_are_allocations = some ⟨oc_are_allocations, od_are_allocations, .func (PySem.W.fnOf "are_allocations" "are_allocations" (defArgs s_are_allocations) (defBody s_are_allocations) (defScope s_are_allocations) .none kV_are_allocations dc_are_allocations pm_are_allocations an_are_allocations cd_are_allocations ct_are_allocations), sl_are_allocations⟩) (o_are_allocations : PySem.W.codeIn K cd_are_allocations "are_allocations" = true) (k_are_allocations : PySem.W.keepIn K (.ref f_are_allocations) = true)
    {od_is_bounded_assignment an_is_bounded_assignment : Option Addr} {sl_is_bounded_assignment : Array (Option Value)} {oc_is_bounded_assignment kV_is_bounded_assignment dc_is_bounded_assignment pm_is_bounded_assignment cd_is_bounded_assignment ct_is_bounded_assignment : Value} {f_is_bounded_assignment : Addr}
    (a_is_bounded_assignment : PySem.W.nsIn K mainGlobals "is_bounded_assignment" = some (some (.ref f_is_bounded_assignment))) (l_is_bounded_assignment : K.lookup f_is_bounded_assignment = some ⟨oc_is_bounded_assignment, od_is_bounded_assignment, .func (PySem.W.fnOf "is_bounded_assignment" "is_bounded_assignment" (defArgs s_is_bounded_assignment) (defBody s_is_bounded_assignment) (defScope s_is_bounded_assignment) .none kV_is_bounded_assignment dc_is_bounded_assignment pm_is_bounded_assignment an_is_bounded_assignment cd_is_bounded_assignment ct_is_bounded_assignment), sl_is_bounded_assignment⟩) (o_is_bounded_assignment : PySem.W.codeIn K cd_is_bounded_assignment "is_bounded_assignment" = true) (k_is_bounded_assignment : PySem.W.keepIn K (.ref f_is_bounded_assignment) = true)
    {od_check_assignment an_check_assignment : Option Addr} {sl_check_assignment : Array (Option Value)} {oc_check_assignment kV_check_assignment dc_check_assignment pm_check_assignment cd_check_assignment ct_check_assignment : Value} {f_check_assignment : Addr}
    (a_check_assignment : PySem.W.nsIn K mainGlobals "check_assignment" = some (some (.ref f_check_assignment))) (l_check_assignment : K.lookup f_check_assignment = some ⟨oc_check_assignment, od_check_assignment, .func (PySem.W.fnOf "check_assignment" "check_assignment" (defArgs s_check_assignment) (defBody s_check_assignment) (defScope s_check_assignment) .none kV_check_assignment dc_check_assignment pm_check_assignment an_check_assignment cd_check_assignment ct_check_assignment), sl_check_assignment⟩) (o_check_assignment : PySem.W.codeIn K cd_check_assignment "check_assignment" = true) (k_check_assignment : PySem.W.keepIn K (.ref f_check_assignment) = true)
    {od_check_enough an_check_enough : Option Addr} {sl_check_enough : Array (Option Value)} {oc_check_enough kV_check_enough dc_check_enough pm_check_enough cd_check_enough ct_check_enough : Value} {f_check_enough : Addr}
    (a_check_enough : PySem.W.nsIn K mainGlobals "check_enough" = some (some (.ref f_check_enough))) (l_check_enough : K.lookup f_check_enough = some ⟨oc_check_enough, od_check_enough, .func (PySem.W.fnOf "check_enough" "check_enough" (defArgs s_check_enough) (defBody s_check_enough) (defScope s_check_enough) .none kV_check_enough dc_check_enough pm_check_enough an_check_enough cd_check_enough ct_check_enough), sl_check_enough⟩) (o_check_enough : PySem.W.codeIn K cd_check_enough "check_enough" = true) (k_check_enough : PySem.W.keepIn K (.ref f_check_enough) = true)
    {od_allocation_of an_allocation_of : Option Addr} {sl_allocation_of : Array (Option Value)} {oc_allocation_of kV_allocation_of dc_allocation_of pm_allocation_of cd_allocation_of ct_allocation_of : Value} {f_allocation_of : Addr}
    (a_allocation_of : PySem.W.nsIn K mainGlobals "allocation_of" = some (some (.ref f_allocation_of))) (l_allocation_of : K.lookup f_allocation_of = some ⟨oc_allocation_of, od_allocation_of, .func (PySem.W.fnOf "allocation_of" "allocation_of" (defArgs s_allocation_of) (defBody s_allocation_of) (defScope s_allocation_of) .none kV_allocation_of dc_allocation_of pm_allocation_of an_allocation_of cd_allocation_of ct_allocation_of), sl_allocation_of⟩) (o_allocation_of : PySem.W.codeIn K cd_allocation_of "allocation_of" = true) (k_allocation_of : PySem.W.keepIn K (.ref f_allocation_of) = true)
    {od_one_after_another an_one_after_another : Option Addr} {sl_one_after_another : Array (Option Value)} {oc_one_after_another kV_one_after_another dc_one_after_another pm_one_after_another cd_one_after_another ct_one_after_another : Value} {f_one_after_another : Addr}
    (a_one_after_another : PySem.W.nsIn K mainGlobals "one_after_another" = some (some (.ref f_one_after_another))) (l_one_after_another : K.lookup f_one_after_another = some ⟨oc_one_after_another, od_one_after_another, .func (PySem.W.fnOf "one_after_another" "one_after_another" (defArgs s_one_after_another) (defBody s_one_after_another) (defScope s_one_after_another) .none kV_one_after_another dc_one_after_another pm_one_after_another an_one_after_another cd_one_after_another ct_one_after_another), sl_one_after_another⟩) (o_one_after_another : PySem.W.codeIn K cd_one_after_another "one_after_another" = true) (k_one_after_another : PySem.W.keepIn K (.ref f_one_after_another) = true)
    {od_ascending an_ascending : Option Addr} {sl_ascending : Array (Option Value)} {oc_ascending kV_ascending dc_ascending pm_ascending cd_ascending ct_ascending : Value} {f_ascending : Addr}
    (a_ascending : PySem.W.nsIn K mainGlobals "ascending" = some (some (.ref f_ascending))) (l_ascending : K.lookup f_ascending = some ⟨oc_ascending, od_ascending, .func (PySem.W.fnOf "ascending" "ascending" (defArgs s_ascending) (defBody s_ascending) (defScope s_ascending) .none kV_ascending dc_ascending pm_ascending an_ascending cd_ascending ct_ascending), sl_ascending⟩) (o_ascending : PySem.W.codeIn K cd_ascending "ascending" = true) (k_ascending : PySem.W.keepIn K (.ref f_ascending) = true)
    {od_first_state an_first_state : Option Addr} {sl_first_state : Array (Option Value)} {oc_first_state kV_first_state dc_first_state pm_first_state cd_first_state ct_first_state : Value} {f_first_state : Addr}
    (a_first_state : PySem.W.nsIn K mainGlobals "first_state" = some (some (.ref f_first_state))) (l_first_state : K.lookup f_first_state = some ⟨oc_first_state, od_first_state, .func (PySem.W.fnOf "first_state" "first_state" (defArgs s_first_state) (defBody s_first_state) (defScope s_first_state) .none kV_first_state dc_first_state pm_first_state an_first_state cd_first_state ct_first_state), sl_first_state⟩) (o_first_state : PySem.W.codeIn K cd_first_state "first_state" = true) (k_first_state : PySem.W.keepIn K (.ref f_first_state) = true)
    {od_options an_options : Option Addr} {sl_options : Array (Option Value)} {oc_options kV_options dc_options pm_options cd_options ct_options : Value} {f_options : Addr}
    (a_options : PySem.W.nsIn K mainGlobals "options" = some (some (.ref f_options))) (l_options : K.lookup f_options = some ⟨oc_options, od_options, .func (PySem.W.fnOf "options" "options" (defArgs s_options) (defBody s_options) (defScope s_options) .none kV_options dc_options pm_options an_options cd_options ct_options), sl_options⟩) (o_options : PySem.W.codeIn K cd_options "options" = true) (k_options : PySem.W.keepIn K (.ref f_options) = true)
    {od_one_less an_one_less : Option Addr} {sl_one_less : Array (Option Value)} {oc_one_less kV_one_less dc_one_less pm_one_less cd_one_less ct_one_less : Value} {f_one_less : Addr}
    (a_one_less : PySem.W.nsIn K mainGlobals "one_less" = some (some (.ref f_one_less))) (l_one_less : K.lookup f_one_less = some ⟨oc_one_less, od_one_less, .func (PySem.W.fnOf "one_less" "one_less" (defArgs s_one_less) (defBody s_one_less) (defScope s_one_less) .none kV_one_less dc_one_less pm_one_less an_one_less cd_one_less ct_one_less), sl_one_less⟩) (o_one_less : PySem.W.codeIn K cd_one_less "one_less" = true) (k_one_less : PySem.W.keepIn K (.ref f_one_less) = true)
    {od_state_after an_state_after : Option Addr} {sl_state_after : Array (Option Value)} {oc_state_after kV_state_after dc_state_after pm_state_after cd_state_after ct_state_after : Value} {f_state_after : Addr}
    (a_state_after : PySem.W.nsIn K mainGlobals "state_after" = some (some (.ref f_state_after))) (l_state_after : K.lookup f_state_after = some ⟨oc_state_after, od_state_after, .func (PySem.W.fnOf "state_after" "state_after" (defArgs s_state_after) (defBody s_state_after) (defScope s_state_after) .none kV_state_after dc_state_after pm_state_after an_state_after cd_state_after ct_state_after), sl_state_after⟩) (o_state_after : PySem.W.codeIn K cd_state_after "state_after" = true) (k_state_after : PySem.W.keepIn K (.ref f_state_after) = true)
    {od_first_way an_first_way : Option Addr} {sl_first_way : Array (Option Value)} {oc_first_way kV_first_way dc_first_way pm_first_way cd_first_way ct_first_way : Value} {f_first_way : Addr}
    (a_first_way : PySem.W.nsIn K mainGlobals "first_way" = some (some (.ref f_first_way))) (l_first_way : K.lookup f_first_way = some ⟨oc_first_way, od_first_way, .func (PySem.W.fnOf "first_way" "first_way" (defArgs s_first_way) (defBody s_first_way) (defScope s_first_way) .none kV_first_way dc_first_way pm_first_way an_first_way cd_first_way ct_first_way), sl_first_way⟩) (o_first_way : PySem.W.codeIn K cd_first_way "first_way" = true) (k_first_way : PySem.W.keepIn K (.ref f_first_way) = true)
    {od_check_steps an_check_steps : Option Addr} {sl_check_steps : Array (Option Value)} {oc_check_steps kV_check_steps dc_check_steps pm_check_steps cd_check_steps ct_check_steps : Value} {f_check_steps : Addr}
    (a_check_steps : PySem.W.nsIn K mainGlobals "check_steps" = some (some (.ref f_check_steps))) (l_check_steps : K.lookup f_check_steps = some ⟨oc_check_steps, od_check_steps, .func (PySem.W.fnOf "check_steps" "check_steps" (defArgs s_check_steps) (defBody s_check_steps) (defScope s_check_steps) .none kV_check_steps dc_check_steps pm_check_steps an_check_steps cd_check_steps ct_check_steps), sl_check_steps⟩) (o_check_steps : PySem.W.codeIn K cd_check_steps "check_steps" = true) (k_check_steps : PySem.W.keepIn K (.ref f_check_steps) = true)
    {od_steps_of an_steps_of : Option Addr} {sl_steps_of : Array (Option Value)} {oc_steps_of kV_steps_of dc_steps_of pm_steps_of cd_steps_of ct_steps_of : Value} {f_steps_of : Addr}
    (a_steps_of : PySem.W.nsIn K mainGlobals "steps_of" = some (some (.ref f_steps_of))) (l_steps_of : K.lookup f_steps_of = some ⟨oc_steps_of, od_steps_of, .func (PySem.W.fnOf "steps_of" "steps_of" (defArgs s_steps_of) (defBody s_steps_of) (defScope s_steps_of) .none kV_steps_of dc_steps_of pm_steps_of an_steps_of cd_steps_of ct_steps_of), sl_steps_of⟩) (o_steps_of : PySem.W.codeIn K cd_steps_of "steps_of" = true) (k_steps_of : PySem.W.keepIn K (.ref f_steps_of) = true)
    {od_decreases an_decreases : Option Addr} {sl_decreases : Array (Option Value)} {oc_decreases kV_decreases dc_decreases pm_decreases cd_decreases ct_decreases : Value} {f_decreases : Addr}
    (a_decreases : PySem.W.nsIn K mainGlobals "decreases" = some (some (.ref f_decreases))) (l_decreases : K.lookup f_decreases = some ⟨oc_decreases, od_decreases, .func (PySem.W.fnOf "decreases" "decreases" (defArgs s_decreases) (defBody s_decreases) (defScope s_decreases) .none kV_decreases dc_decreases pm_decreases an_decreases cd_decreases ct_decreases), sl_decreases⟩) (o_decreases : PySem.W.codeIn K cd_decreases "decreases" = true) (k_decreases : PySem.W.keepIn K (.ref f_decreases) = true)
    {od_overdrawn an_overdrawn : Option Addr} {sl_overdrawn : Array (Option Value)} {oc_overdrawn kV_overdrawn dc_overdrawn pm_overdrawn cd_overdrawn ct_overdrawn : Value} {f_overdrawn : Addr}
    (a_overdrawn : PySem.W.nsIn K mainGlobals "overdrawn" = some (some (.ref f_overdrawn))) (l_overdrawn : K.lookup f_overdrawn = some ⟨oc_overdrawn, od_overdrawn, .func (PySem.W.fnOf "overdrawn" "overdrawn" (defArgs s_overdrawn) (defBody s_overdrawn) (defScope s_overdrawn) .none kV_overdrawn dc_overdrawn pm_overdrawn an_overdrawn cd_overdrawn ct_overdrawn), sl_overdrawn⟩) (o_overdrawn : PySem.W.codeIn K cd_overdrawn "overdrawn" = true) (k_overdrawn : PySem.W.keepIn K (.ref f_overdrawn) = true)
    {od_calm_change an_calm_change : Option Addr} {sl_calm_change : Array (Option Value)} {oc_calm_change kV_calm_change dc_calm_change pm_calm_change cd_calm_change ct_calm_change : Value} {f_calm_change : Addr}
    (a_calm_change : PySem.W.nsIn K mainGlobals "calm_change" = some (some (.ref f_calm_change))) (l_calm_change : K.lookup f_calm_change = some ⟨oc_calm_change, od_calm_change, .func (PySem.W.fnOf "calm_change" "calm_change" (defArgs s_calm_change) (defBody s_calm_change) (defScope s_calm_change) .none kV_calm_change dc_calm_change pm_calm_change an_calm_change cd_calm_change ct_calm_change), sl_calm_change⟩) (o_calm_change : PySem.W.codeIn K cd_calm_change "calm_change" = true) (k_calm_change : PySem.W.keepIn K (.ref f_calm_change) = true)
    {od_calm_history an_calm_history : Option Addr} {sl_calm_history : Array (Option Value)} {oc_calm_history kV_calm_history dc_calm_history pm_calm_history cd_calm_history ct_calm_history : Value} {f_calm_history : Addr}
    (a_calm_history : PySem.W.nsIn K mainGlobals "calm_history" = some (some (.ref f_calm_history))) (l_calm_history : K.lookup f_calm_history = some ⟨oc_calm_history, od_calm_history, .func (PySem.W.fnOf "calm_history" "calm_history" (defArgs s_calm_history) (defBody s_calm_history) (defScope s_calm_history) .none kV_calm_history dc_calm_history pm_calm_history an_calm_history cd_calm_history ct_calm_history), sl_calm_history⟩) (o_calm_history : PySem.W.codeIn K cd_calm_history "calm_history" = true) (k_calm_history : PySem.W.keepIn K (.ref f_calm_history) = true)
    {od__law_stream an__law_stream : Option Addr} {sl__law_stream : Array (Option Value)} {oc__law_stream kV__law_stream dc__law_stream pm__law_stream cd__law_stream ct__law_stream : Value} {f__law_stream : Addr}
    (a__law_stream : PySem.W.nsIn K mainGlobals "_law_stream" = some (some (.ref f__law_stream))) (l__law_stream : K.lookup f__law_stream = some ⟨oc__law_stream, od__law_stream, .func (PySem.W.fnOf "_law_stream" "_law_stream" (defArgs s__law_stream) (defBody s__law_stream) (defScope s__law_stream) .none kV__law_stream dc__law_stream pm__law_stream an__law_stream cd__law_stream ct__law_stream), sl__law_stream⟩) (o__law_stream : PySem.W.codeIn K cd__law_stream "_law_stream" = true) (k__law_stream : PySem.W.keepIn K (.ref f__law_stream) = true)
    {od__law_next an__law_next : Option Addr} {sl__law_next : Array (Option Value)} {oc__law_next kV__law_next dc__law_next pm__law_next cd__law_next ct__law_next : Value} {f__law_next : Addr}
    (a__law_next : PySem.W.nsIn K mainGlobals "_law_next" = some (some (.ref f__law_next))) (l__law_next : K.lookup f__law_next = some ⟨oc__law_next, od__law_next, .func (PySem.W.fnOf "_law_next" "_law_next" (defArgs s__law_next) (defBody s__law_next) (defScope s__law_next) .none kV__law_next dc__law_next pm__law_next an__law_next cd__law_next ct__law_next), sl__law_next⟩) (o__law_next : PySem.W.codeIn K cd__law_next "_law_next" = true) (k__law_next : PySem.W.keepIn K (.ref f__law_next) = true)
    {od__law_is_integer an__law_is_integer : Option Addr} {sl__law_is_integer : Array (Option Value)} {oc__law_is_integer kV__law_is_integer dc__law_is_integer pm__law_is_integer cd__law_is_integer ct__law_is_integer : Value} {f__law_is_integer : Addr}
    (a__law_is_integer : PySem.W.nsIn K mainGlobals "_law_is_integer" = some (some (.ref f__law_is_integer))) (l__law_is_integer : K.lookup f__law_is_integer = some ⟨oc__law_is_integer, od__law_is_integer, .func (PySem.W.fnOf "_law_is_integer" "_law_is_integer" (defArgs s__law_is_integer) (defBody s__law_is_integer) (defScope s__law_is_integer) .none kV__law_is_integer dc__law_is_integer pm__law_is_integer an__law_is_integer cd__law_is_integer ct__law_is_integer), sl__law_is_integer⟩) (o__law_is_integer : PySem.W.codeIn K cd__law_is_integer "_law_is_integer" = true) (k__law_is_integer : PySem.W.keepIn K (.ref f__law_is_integer) = true)
    {od__law_equal an__law_equal : Option Addr} {sl__law_equal : Array (Option Value)} {oc__law_equal kV__law_equal dc__law_equal pm__law_equal cd__law_equal ct__law_equal : Value} {f__law_equal : Addr}
    (a__law_equal : PySem.W.nsIn K mainGlobals "_law_equal" = some (some (.ref f__law_equal))) (l__law_equal : K.lookup f__law_equal = some ⟨oc__law_equal, od__law_equal, .func (PySem.W.fnOf "_law_equal" "_law_equal" (defArgs s__law_equal) (defBody s__law_equal) (defScope s__law_equal) .none kV__law_equal dc__law_equal pm__law_equal an__law_equal cd__law_equal ct__law_equal), sl__law_equal⟩) (o__law_equal : PySem.W.codeIn K cd__law_equal "_law_equal" = true) (k__law_equal : PySem.W.keepIn K (.ref f__law_equal) = true)
    {od__law_allocation an__law_allocation : Option Addr} {sl__law_allocation : Array (Option Value)} {oc__law_allocation kV__law_allocation dc__law_allocation pm__law_allocation cd__law_allocation ct__law_allocation : Value} {f__law_allocation : Addr}
    (a__law_allocation : PySem.W.nsIn K mainGlobals "_law_allocation" = some (some (.ref f__law_allocation))) (l__law_allocation : K.lookup f__law_allocation = some ⟨oc__law_allocation, od__law_allocation, .func (PySem.W.fnOf "_law_allocation" "_law_allocation" (defArgs s__law_allocation) (defBody s__law_allocation) (defScope s__law_allocation) .none kV__law_allocation dc__law_allocation pm__law_allocation an__law_allocation cd__law_allocation ct__law_allocation), sl__law_allocation⟩) (o__law_allocation : PySem.W.codeIn K cd__law_allocation "_law_allocation" = true) (k__law_allocation : PySem.W.keepIn K (.ref f__law_allocation) = true)
    {od__law_near an__law_near : Option Addr} {sl__law_near : Array (Option Value)} {oc__law_near kV__law_near dc__law_near pm__law_near cd__law_near ct__law_near : Value} {f__law_near : Addr}
    (a__law_near : PySem.W.nsIn K mainGlobals "_law_near" = some (some (.ref f__law_near))) (l__law_near : K.lookup f__law_near = some ⟨oc__law_near, od__law_near, .func (PySem.W.fnOf "_law_near" "_law_near" (defArgs s__law_near) (defBody s__law_near) (defScope s__law_near) .none kV__law_near dc__law_near pm__law_near an__law_near cd__law_near ct__law_near), sl__law_near⟩) (o__law_near : PySem.W.codeIn K cd__law_near "_law_near" = true) (k__law_near : PySem.W.keepIn K (.ref f__law_near) = true)
    {od__law_series an__law_series : Option Addr} {sl__law_series : Array (Option Value)} {oc__law_series kV__law_series dc__law_series pm__law_series cd__law_series ct__law_series : Value} {f__law_series : Addr}
    (a__law_series : PySem.W.nsIn K mainGlobals "_law_series" = some (some (.ref f__law_series))) (l__law_series : K.lookup f__law_series = some ⟨oc__law_series, od__law_series, .func (PySem.W.fnOf "_law_series" "_law_series" (defArgs s__law_series) (defBody s__law_series) (defScope s__law_series) .none kV__law_series dc__law_series pm__law_series an__law_series cd__law_series ct__law_series), sl__law_series⟩) (o__law_series : PySem.W.codeIn K cd__law_series "_law_series" = true) (k__law_series : PySem.W.keepIn K (.ref f__law_series) = true)
    {od__law_sorted an__law_sorted : Option Addr} {sl__law_sorted : Array (Option Value)} {oc__law_sorted kV__law_sorted dc__law_sorted pm__law_sorted cd__law_sorted ct__law_sorted : Value} {f__law_sorted : Addr}
    (a__law_sorted : PySem.W.nsIn K mainGlobals "_law_sorted" = some (some (.ref f__law_sorted))) (l__law_sorted : K.lookup f__law_sorted = some ⟨oc__law_sorted, od__law_sorted, .func (PySem.W.fnOf "_law_sorted" "_law_sorted" (defArgs s__law_sorted) (defBody s__law_sorted) (defScope s__law_sorted) .none kV__law_sorted dc__law_sorted pm__law_sorted an__law_sorted cd__law_sorted ct__law_sorted), sl__law_sorted⟩) (o__law_sorted : PySem.W.codeIn K cd__law_sorted "_law_sorted" = true) (k__law_sorted : PySem.W.keepIn K (.ref f__law_sorted) = true)
    {od__law_assignments an__law_assignments : Option Addr} {sl__law_assignments : Array (Option Value)} {oc__law_assignments kV__law_assignments dc__law_assignments pm__law_assignments cd__law_assignments ct__law_assignments : Value} {f__law_assignments : Addr}
    (a__law_assignments : PySem.W.nsIn K mainGlobals "_law_assignments" = some (some (.ref f__law_assignments))) (l__law_assignments : K.lookup f__law_assignments = some ⟨oc__law_assignments, od__law_assignments, .func (PySem.W.fnOf "_law_assignments" "_law_assignments" (defArgs s__law_assignments) (defBody s__law_assignments) (defScope s__law_assignments) .none kV__law_assignments dc__law_assignments pm__law_assignments an__law_assignments cd__law_assignments ct__law_assignments), sl__law_assignments⟩) (o__law_assignments : PySem.W.codeIn K cd__law_assignments "_law_assignments" = true) (k__law_assignments : PySem.W.keepIn K (.ref f__law_assignments) = true)
    {od__law_transfer an__law_transfer : Option Addr} {sl__law_transfer : Array (Option Value)} {oc__law_transfer kV__law_transfer dc__law_transfer pm__law_transfer cd__law_transfer ct__law_transfer : Value} {f__law_transfer : Addr}
    (a__law_transfer : PySem.W.nsIn K mainGlobals "_law_transfer" = some (some (.ref f__law_transfer))) (l__law_transfer : K.lookup f__law_transfer = some ⟨oc__law_transfer, od__law_transfer, .func (PySem.W.fnOf "_law_transfer" "_law_transfer" (defArgs s__law_transfer) (defBody s__law_transfer) (defScope s__law_transfer) .none kV__law_transfer dc__law_transfer pm__law_transfer an__law_transfer cd__law_transfer ct__law_transfer), sl__law_transfer⟩) (o__law_transfer : PySem.W.codeIn K cd__law_transfer "_law_transfer" = true) (k__law_transfer : PySem.W.keepIn K (.ref f__law_transfer) = true)
    {od__law_churn an__law_churn : Option Addr} {sl__law_churn : Array (Option Value)} {oc__law_churn kV__law_churn dc__law_churn pm__law_churn cd__law_churn ct__law_churn : Value} {f__law_churn : Addr}
    (a__law_churn : PySem.W.nsIn K mainGlobals "_law_churn" = some (some (.ref f__law_churn))) (l__law_churn : K.lookup f__law_churn = some ⟨oc__law_churn, od__law_churn, .func (PySem.W.fnOf "_law_churn" "_law_churn" (defArgs s__law_churn) (defBody s__law_churn) (defScope s__law_churn) .none kV__law_churn dc__law_churn pm__law_churn an__law_churn cd__law_churn ct__law_churn), sl__law_churn⟩) (o__law_churn : PySem.W.codeIn K cd__law_churn "_law_churn" = true) (k__law_churn : PySem.W.keepIn K (.ref f__law_churn) = true)
    {od__law_changes an__law_changes : Option Addr} {sl__law_changes : Array (Option Value)} {oc__law_changes kV__law_changes dc__law_changes pm__law_changes cd__law_changes ct__law_changes : Value} {f__law_changes : Addr}
    (a__law_changes : PySem.W.nsIn K mainGlobals "_law_changes" = some (some (.ref f__law_changes))) (l__law_changes : K.lookup f__law_changes = some ⟨oc__law_changes, od__law_changes, .func (PySem.W.fnOf "_law_changes" "_law_changes" (defArgs s__law_changes) (defBody s__law_changes) (defScope s__law_changes) .none kV__law_changes dc__law_changes pm__law_changes an__law_changes cd__law_changes ct__law_changes), sl__law_changes⟩) (o__law_changes : PySem.W.codeIn K cd__law_changes "_law_changes" = true) (k__law_changes : PySem.W.keepIn K (.ref f__law_changes) = true)
    {od__law_small_series an__law_small_series : Option Addr} {sl__law_small_series : Array (Option Value)} {oc__law_small_series kV__law_small_series dc__law_small_series pm__law_small_series cd__law_small_series ct__law_small_series : Value} {f__law_small_series : Addr}
    (a__law_small_series : PySem.W.nsIn K mainGlobals "_law_small_series" = some (some (.ref f__law_small_series))) (l__law_small_series : K.lookup f__law_small_series = some ⟨oc__law_small_series, od__law_small_series, .func (PySem.W.fnOf "_law_small_series" "_law_small_series" (defArgs s__law_small_series) (defBody s__law_small_series) (defScope s__law_small_series) .none kV__law_small_series dc__law_small_series pm__law_small_series an__law_small_series cd__law_small_series ct__law_small_series), sl__law_small_series⟩) (o__law_small_series : PySem.W.codeIn K cd__law_small_series "_law_small_series" = true) (k__law_small_series : PySem.W.keepIn K (.ref f__law_small_series) = true)
    {od_law an_law : Option Addr} {sl_law : Array (Option Value)} {oc_law kV_law dc_law pm_law cd_law ct_law : Value} {f_law : Addr}
    (a_law : PySem.W.nsIn K mainGlobals "law" = some (some (.ref f_law))) (l_law : K.lookup f_law = some ⟨oc_law, od_law, .func (PySem.W.fnOf "law" "law" (defArgs s_law) (defBody s_law) (defScope s_law) .none kV_law dc_law pm_law an_law cd_law ct_law), sl_law⟩) (o_law : PySem.W.codeIn K cd_law "law" = true) (k_law : PySem.W.keepIn K (.ref f_law) = true)
    (z_abs : PySem.W.nsIn K mainGlobals "abs" = some none)
    (z_all : PySem.W.nsIn K mainGlobals "all" = some none)
    (z_bool : PySem.W.nsIn K mainGlobals "bool" = some none)
    (z_enumerate : PySem.W.nsIn K mainGlobals "enumerate" = some none)
    (z_int : PySem.W.nsIn K mainGlobals "int" = some none)
    (z_isinstance : PySem.W.nsIn K mainGlobals "isinstance" = some none)
    (z_len : PySem.W.nsIn K mainGlobals "len" = some none)
    (z_list : PySem.W.nsIn K mainGlobals "list" = some none)
    (z_max : PySem.W.nsIn K mainGlobals "max" = some none)
    (z_min : PySem.W.nsIn K mainGlobals "min" = some none)
    (z_range : PySem.W.nsIn K mainGlobals "range" = some none)
    (z_sorted : PySem.W.nsIn K mainGlobals "sorted" = some none)
    (z_str : PySem.W.nsIn K mainGlobals "str" = some none)
    (z_sum : PySem.W.nsIn K mainGlobals "sum" = some none)
    (z_tuple : PySem.W.nsIn K mainGlobals "tuple" = some none)
    (z_zip : PySem.W.nsIn K mainGlobals "zip" = some none)
    {tk_MOST_VARIANTS : Tok} (g_MOST_VARIANTS : PySem.W.nsIn K mainGlobals "MOST_VARIANTS" = some (some (.int 5 tk_MOST_VARIANTS)))
    {tk_MOST_BUCKETS : Tok} (g_MOST_BUCKETS : PySem.W.nsIn K mainGlobals "MOST_BUCKETS" = some (some (.int 20 tk_MOST_BUCKETS)))
    {tk_MOST_ALLOCATIONS : Tok} (g_MOST_ALLOCATIONS : PySem.W.nsIn K mainGlobals "MOST_ALLOCATIONS" = some (some (.int 10 tk_MOST_ALLOCATIONS))) :
    ∃ fd : FuncData, (∀ (s : Shared) (v : Value), BindsTo s fd ⟨[v], []⟩ [("script", v)]) ∧ ∀ base : Heap, K.In base → base.Ns mainGlobals mg → FnOk l.prog w K mg base CX0 11 fa fd ["script"] (spLaw K) := by
  have e := hfa.symm.trans (PySem.W.mg_of X G a_law)
  cases e
  have T : Txt mg := { b_abs := PySem.W.mg_none_of X G z_abs, b_all := PySem.W.mg_none_of X G z_all, b_bool := PySem.W.mg_none_of X G z_bool, b_enumerate := PySem.W.mg_none_of X G z_enumerate, b_int := PySem.W.mg_none_of X G z_int, b_isinstance := PySem.W.mg_none_of X G z_isinstance, b_len := PySem.W.mg_none_of X G z_len, b_list := PySem.W.mg_none_of X G z_list, b_max := PySem.W.mg_none_of X G z_max, b_min := PySem.W.mg_none_of X G z_min, b_range := PySem.W.mg_none_of X G z_range, b_sorted := PySem.W.mg_none_of X G z_sorted, b_str := PySem.W.mg_none_of X G z_str, b_sum := PySem.W.mg_none_of X G z_sum, b_tuple := PySem.W.mg_none_of X G z_tuple, b_zip := PySem.W.mg_none_of X G z_zip, k_MOST_VARIANTS := ⟨_, PySem.W.mg_of X G g_MOST_VARIANTS⟩, k_MOST_BUCKETS := ⟨_, PySem.W.mg_of X G g_MOST_BUCKETS⟩, k_MOST_ALLOCATIONS := ⟨_, PySem.W.mg_of X G g_MOST_ALLOCATIONS⟩ }
  have F_is_integer := fun_mk (st := s_is_integer) l_is_integer o_is_integer k_is_integer
  have b_is_integer := F_is_integer.binds (ps := p_is_integer) fun _ _ _ _ _ _ us hl => match us, hl with | [_, _, _], _ => rfl
  have m_is_integer := PySem.W.mg_of X G a_is_integer
  have F_are_integers := fun_mk (st := s_are_integers) l_are_integers o_are_integers k_are_integers
  have b_are_integers := F_are_integers.binds (ps := p_are_integers) fun _ _ _ _ _ _ us hl => match us, hl with | [_, _, _], _ => rfl
  have m_are_integers := PySem.W.mg_of X G a_are_integers
  have F_require := fun_mk (st := s_require) l_require o_require k_require
  have b_require := F_require.binds (ps := p_require) fun _ _ _ _ _ _ us hl => match us, hl with | [_, _], _ => rfl
  have m_require := PySem.W.mg_of X G a_require
  have F_is_allocation := fun_mk (st := s_is_allocation) l_is_allocation o_is_allocation k_is_allocation
  have b_is_allocation := F_is_allocation.binds (ps := p_is_allocation) fun _ _ _ _ _ _ us hl => match us, hl with | [_, _, _], _ => rfl
  have m_is_allocation := PySem.W.mg_of X G a_is_allocation
  have F_is_bounded_allocation := fun_mk (st := s_is_bounded_allocation) l_is_bounded_allocation o_is_bounded_allocation k_is_bounded_allocation
  have b_is_bounded_allocation := F_is_bounded_allocation.binds (ps := p_is_bounded_allocation) fun _ _ _ _ _ _ us hl => match us, hl with | [_], _ => rfl
  have m_is_bounded_allocation := PySem.W.mg_of X G a_is_bounded_allocation
  have F_are_allocations := fun_mk (st := s_are_allocations) l_are_allocations o_are_allocations k_are_allocations
  have b_are_allocations := F_are_allocations.binds (ps := p_are_allocations) fun _ _ _ _ _ _ us hl => match us, hl with | [_, _], _ => rfl
  have m_are_allocations := PySem.W.mg_of X G a_are_allocations
  have F_is_bounded_assignment := fun_mk (st := s_is_bounded_assignment) l_is_bounded_assignment o_is_bounded_assignment k_is_bounded_assignment
  have b_is_bounded_assignment := F_is_bounded_assignment.binds (ps := p_is_bounded_assignment) fun _ _ _ _ _ _ us hl => match us, hl with | [_, _], _ => rfl
  have m_is_bounded_assignment := PySem.W.mg_of X G a_is_bounded_assignment
  have F_check_assignment := fun_mk (st := s_check_assignment) l_check_assignment o_check_assignment k_check_assignment
  have b_check_assignment := F_check_assignment.binds (ps := p_check_assignment) fun _ _ _ _ _ _ us hl => match us, hl with | [_, _], _ => rfl
  have m_check_assignment := PySem.W.mg_of X G a_check_assignment
  have F_check_enough := fun_mk (st := s_check_enough) l_check_enough o_check_enough k_check_enough
  have b_check_enough := F_check_enough.binds (ps := p_check_enough) fun _ _ _ _ _ _ us hl => match us, hl with | [_, _], _ => rfl
  have m_check_enough := PySem.W.mg_of X G a_check_enough
  have F_allocation_of := fun_mk (st := s_allocation_of) l_allocation_of o_allocation_of k_allocation_of
  have b_allocation_of := F_allocation_of.binds (ps := p_allocation_of) fun _ _ _ _ _ _ us hl => match us, hl with | [_, _], _ => rfl
  have m_allocation_of := PySem.W.mg_of X G a_allocation_of
  have F_one_after_another := fun_mk (st := s_one_after_another) l_one_after_another o_one_after_another k_one_after_another
  have b_one_after_another := F_one_after_another.binds (ps := p_one_after_another) fun _ _ _ _ _ _ us hl => match us, hl with | [_, _], _ => rfl
  have m_one_after_another := PySem.W.mg_of X G a_one_after_another
  have F_ascending := fun_mk (st := s_ascending) l_ascending o_ascending k_ascending
  have b_ascending := F_ascending.binds (ps := p_ascending) fun _ _ _ _ _ _ us hl => match us, hl with | [_], _ => rfl
  have m_ascending := PySem.W.mg_of X G a_ascending
  have F_first_state := fun_mk (st := s_first_state) l_first_state o_first_state k_first_state
  have b_first_state := F_first_state.binds (ps := p_first_state) fun _ _ _ _ _ _ us hl => match us, hl with | [_, _], _ => rfl
  have m_first_state := PySem.W.mg_of X G a_first_state
  have F_options := fun_mk (st := s_options) l_options o_options k_options
  have b_options := F_options.binds (ps := p_options) fun _ _ _ _ _ _ us hl => match us, hl with | [_, _], _ => rfl
  have m_options := PySem.W.mg_of X G a_options
  have F_one_less := fun_mk (st := s_one_less) l_one_less o_one_less k_one_less
  have b_one_less := F_one_less.binds (ps := p_one_less) fun _ _ _ _ _ _ us hl => match us, hl with | [_, _], _ => rfl
  have m_one_less := PySem.W.mg_of X G a_one_less
  have F_state_after := fun_mk (st := s_state_after) l_state_after o_state_after k_state_after
  have b_state_after := F_state_after.binds (ps := p_state_after) fun _ _ _ _ _ _ us hl => match us, hl with | [_, _, _], _ => rfl
  have m_state_after := PySem.W.mg_of X G a_state_after
  have F_first_way := fun_mk (st := s_first_way) l_first_way o_first_way k_first_way
  have b_first_way := F_first_way.binds (ps := p_first_way) fun _ _ _ _ _ _ us hl => match us, hl with | [_, _], _ => rfl
  have m_first_way := PySem.W.mg_of X G a_first_way
  have F_check_steps := fun_mk (st := s_check_steps) l_check_steps o_check_steps k_check_steps
  have b_check_steps := F_check_steps.binds (ps := p_check_steps) fun _ _ _ _ _ _ us hl => match us, hl with | [_], _ => rfl
  have m_check_steps := PySem.W.mg_of X G a_check_steps
  have F_steps_of := fun_mk (st := s_steps_of) l_steps_of o_steps_of k_steps_of
  have b_steps_of := F_steps_of.binds (ps := p_steps_of) fun _ _ _ _ _ _ us hl => match us, hl with | [_], _ => rfl
  have m_steps_of := PySem.W.mg_of X G a_steps_of
  have F_decreases := fun_mk (st := s_decreases) l_decreases o_decreases k_decreases
  have b_decreases := F_decreases.binds (ps := p_decreases) fun _ _ _ _ _ _ us hl => match us, hl with | [_], _ => rfl
  have m_decreases := PySem.W.mg_of X G a_decreases
  have F_overdrawn := fun_mk (st := s_overdrawn) l_overdrawn o_overdrawn k_overdrawn
  have b_overdrawn := F_overdrawn.binds (ps := p_overdrawn) fun _ _ _ _ _ _ us hl => match us, hl with | [_], _ => rfl
  have m_overdrawn := PySem.W.mg_of X G a_overdrawn
  have F_calm_change := fun_mk (st := s_calm_change) l_calm_change o_calm_change k_calm_change
  have b_calm_change := F_calm_change.binds (ps := p_calm_change) fun _ _ _ _ _ _ us hl => match us, hl with | [_, _, _], _ => rfl
  have m_calm_change := PySem.W.mg_of X G a_calm_change
  have F_calm_history := fun_mk (st := s_calm_history) l_calm_history o_calm_history k_calm_history
  have b_calm_history := F_calm_history.binds (ps := p_calm_history) fun _ _ _ _ _ _ us hl => match us, hl with | [_], _ => rfl
  have m_calm_history := PySem.W.mg_of X G a_calm_history
  have F__law_stream := fun_mk (st := s__law_stream) l__law_stream o__law_stream k__law_stream
  have b__law_stream := F__law_stream.binds (ps := p__law_stream) fun _ _ _ _ _ _ us hl => match us, hl with | [_], _ => rfl
  have m__law_stream := PySem.W.mg_of X G a__law_stream
  have F__law_next := fun_mk (st := s__law_next) l__law_next o__law_next k__law_next
  have b__law_next := F__law_next.binds (ps := p__law_next) fun _ _ _ _ _ _ us hl => match us, hl with | [_, _], _ => rfl
  have m__law_next := PySem.W.mg_of X G a__law_next
  have F__law_is_integer := fun_mk (st := s__law_is_integer) l__law_is_integer o__law_is_integer k__law_is_integer
  have b__law_is_integer := F__law_is_integer.binds (ps := p__law_is_integer) fun _ _ _ _ _ _ us hl => match us, hl with | [_], _ => rfl
  have m__law_is_integer := PySem.W.mg_of X G a__law_is_integer
  have F__law_equal := fun_mk (st := s__law_equal) l__law_equal o__law_equal k__law_equal
  have b__law_equal := F__law_equal.binds (ps := p__law_equal) fun _ _ _ _ _ _ us hl => match us, hl with | [_, _], _ => rfl
  have m__law_equal := PySem.W.mg_of X G a__law_equal
  have F__law_allocation := fun_mk (st := s__law_allocation) l__law_allocation o__law_allocation k__law_allocation
  have b__law_allocation := F__law_allocation.binds (ps := p__law_allocation) fun _ _ _ _ _ _ us hl => match us, hl with | [_, _, _], _ => rfl
  have m__law_allocation := PySem.W.mg_of X G a__law_allocation
  have F__law_near := fun_mk (st := s__law_near) l__law_near o__law_near k__law_near
  have b__law_near := F__law_near.binds (ps := p__law_near) fun _ _ _ _ _ _ us hl => match us, hl with | [_, _], _ => rfl
  have m__law_near := PySem.W.mg_of X G a__law_near
  have F__law_series := fun_mk (st := s__law_series) l__law_series o__law_series k__law_series
  have b__law_series := F__law_series.binds (ps := p__law_series) fun _ _ _ _ _ _ us hl => match us, hl with | [_, _, _, _], _ => rfl
  have m__law_series := PySem.W.mg_of X G a__law_series
  have F__law_sorted := fun_mk (st := s__law_sorted) l__law_sorted o__law_sorted k__law_sorted
  have b__law_sorted := F__law_sorted.binds (ps := p__law_sorted) fun _ _ _ _ _ _ us hl => match us, hl with | [_], _ => rfl
  have m__law_sorted := PySem.W.mg_of X G a__law_sorted
  have F__law_assignments := fun_mk (st := s__law_assignments) l__law_assignments o__law_assignments k__law_assignments
  have b__law_assignments := F__law_assignments.binds (ps := p__law_assignments) fun _ _ _ _ _ _ us hl => match us, hl with | [_], _ => rfl
  have m__law_assignments := PySem.W.mg_of X G a__law_assignments
  have F__law_transfer := fun_mk (st := s__law_transfer) l__law_transfer o__law_transfer k__law_transfer
  have b__law_transfer := F__law_transfer.binds (ps := p__law_transfer) fun _ _ _ _ _ _ us hl => match us, hl with | [_, _], _ => rfl
  have m__law_transfer := PySem.W.mg_of X G a__law_transfer
  have F__law_churn := fun_mk (st := s__law_churn) l__law_churn o__law_churn k__law_churn
  have b__law_churn := F__law_churn.binds (ps := p__law_churn) fun _ _ _ _ _ _ us hl => match us, hl with | [_, _], _ => rfl
  have m__law_churn := PySem.W.mg_of X G a__law_churn
  have F__law_changes := fun_mk (st := s__law_changes) l__law_changes o__law_changes k__law_changes
  have b__law_changes := F__law_changes.binds (ps := p__law_changes) fun _ _ _ _ _ _ us hl => match us, hl with | [_], _ => rfl
  have m__law_changes := PySem.W.mg_of X G a__law_changes
  have F__law_small_series := fun_mk (st := s__law_small_series) l__law_small_series o__law_small_series k__law_small_series
  have b__law_small_series := F__law_small_series.binds (ps := p__law_small_series) fun _ _ _ _ _ _ us hl => match us, hl with | [_], _ => rfl
  have m__law_small_series := PySem.W.mg_of X G a__law_small_series
  have F_law := fun_mk (st := s_law) l_law o_law k_law
  refine ⟨PySem.W.fnOf "law" "law" (defArgs s_law) (defBody s_law) (defScope s_law) .none kV_law dc_law pm_law an_law cd_law ct_law, fun s v => .of_eq rfl, fun base _ _ => ?_⟩
  have c_is_integer : Cal l.prog w K mg base CX0 1 "is_integer" p_is_integer (sp_is_integer K) := ⟨_, _, ok_is_integer F_is_integer T, m_is_integer, k_is_integer, b_is_integer⟩
  have c_require : Cal l.prog w K mg base CX0 1 "require" p_require (sp_require K) := ⟨_, _, ok_require F_require T, m_require, k_require, b_require⟩
  have c_one_after_another : Cal l.prog w K mg base CX0 1 "one_after_another" p_one_after_another (sp_one_after_another K) := ⟨_, _, ok_one_after_another F_one_after_another T, m_one_after_another, k_one_after_another, b_one_after_another⟩
  have c_options : Cal l.prog w K mg base CX0 1 "options" p_options (sp_options K) := ⟨_, _, ok_options F_options T, m_options, k_options, b_options⟩
  have c_one_less : Cal l.prog w K mg base CX0 1 "one_less" p_one_less (sp_one_less K) := ⟨_, _, ok_one_less F_one_less T, m_one_less, k_one_less, b_one_less⟩
  have c_steps_of : Cal l.prog w K mg base CX0 1 "steps_of" p_steps_of (sp_steps_of K) := ⟨_, _, ok_steps_of F_steps_of T, m_steps_of, k_steps_of, b_steps_of⟩
  have c__law_stream : Cal l.prog w K mg base CX0 1 "_law_stream" p__law_stream (sp__law_stream K) := ⟨_, _, ok__law_stream F__law_stream T, m__law_stream, k__law_stream, b__law_stream⟩
  have c__law_next : Cal l.prog w K mg base CX0 1 "_law_next" p__law_next (sp__law_next K) := ⟨_, _, ok__law_next F__law_next T, m__law_next, k__law_next, b__law_next⟩
  have c__law_is_integer : Cal l.prog w K mg base CX0 1 "_law_is_integer" p__law_is_integer (sp__law_is_integer K) := ⟨_, _, ok__law_is_integer F__law_is_integer T, m__law_is_integer, k__law_is_integer, b__law_is_integer⟩
  have c__law_sorted : Cal l.prog w K mg base CX0 1 "_law_sorted" p__law_sorted (sp__law_sortedR K) := ⟨_, _, ok__law_sorted F__law_sorted T, m__law_sorted, k__law_sorted, b__law_sorted⟩
  have c__law_assignments : Cal l.prog w K mg base CX0 1 "_law_assignments" p__law_assignments (sp__law_assignmentsA K) := ⟨_, _, ok__law_assignments F__law_assignments T, m__law_assignments, k__law_assignments, b__law_assignments⟩
  have c__law_transfer : Cal l.prog w K mg base CX0 1 "_law_transfer" p__law_transfer (sp__law_transfer K) := ⟨_, _, ok__law_transfer F__law_transfer T, m__law_transfer, k__law_transfer, b__law_transfer⟩
  have c__law_churn : Cal l.prog w K mg base CX0 1 "_law_churn" p__law_churn (sp__law_churn K) := ⟨_, _, ok__law_churn F__law_churn T, m__law_churn, k__law_churn, b__law_churn⟩
  have c__law_changes : Cal l.prog w K mg base CX0 1 "_law_changes" p__law_changes (sp__law_changes K) := ⟨_, _, ok__law_changes F__law_changes T, m__law_changes, k__law_changes, b__law_changes⟩
  have c_are_integers : Cal l.prog w K mg base CX0 2 "are_integers" p_are_integers (sp_are_integers K) := ⟨_, _, ok_are_integers F_are_integers T c_is_integer, m_are_integers, k_are_integers, b_are_integers⟩
  have c_check_enough : Cal l.prog w K mg base CX0 2 "check_enough" p_check_enough (sp_check_enough K) := ⟨_, _, ok_check_enough F_check_enough T c_require c_is_integer, m_check_enough, k_check_enough, b_check_enough⟩
  have c_ascending : Cal l.prog w K mg base CX0 2 "ascending" p_ascending (sp_ascendingR K) := ⟨_, _, ok_ascending F_ascending T c_one_after_another, m_ascending, k_ascending, b_ascending⟩
  have c_state_after : Cal l.prog w K mg base CX0 2 "state_after" p_state_after (sp_state_after K) := ⟨_, _, ok_state_after F_state_after T c_one_less, m_state_after, k_state_after, b_state_after⟩
  have c__law_allocation : Cal l.prog w K mg base CX0 2 "_law_allocation" p__law_allocation (sp__law_allocation K) := ⟨_, _, ok__law_allocation F__law_allocation T c__law_next, m__law_allocation, k__law_allocation, b__law_allocation⟩
  have c__law_near : Cal l.prog w K mg base CX0 2 "_law_near" p__law_near (sp__law_nearA K) := ⟨_, _, ok__law_near F__law_near T c__law_next, m__law_near, k__law_near, b__law_near⟩
  have c_is_allocation : Cal l.prog w K mg base CX0 3 "is_allocation" p_is_allocation (sp_is_allocation K) := ⟨_, _, ok_is_allocation F_is_allocation T c_are_integers, m_is_allocation, k_is_allocation, b_is_allocation⟩
  have c_is_bounded_allocation : Cal l.prog w K mg base CX0 3 "is_bounded_allocation" p_is_bounded_allocation (sp_is_bounded_allocation K) := ⟨_, _, ok_is_bounded_allocation F_is_bounded_allocation T c_are_integers, m_is_bounded_allocation, k_is_bounded_allocation, b_is_bounded_allocation⟩
  have c_is_bounded_assignment : Cal l.prog w K mg base CX0 3 "is_bounded_assignment" p_is_bounded_assignment (sp_is_bounded_assignment K) := ⟨_, _, ok_is_bounded_assignment F_is_bounded_assignment T c_are_integers, m_is_bounded_assignment, k_is_bounded_assignment, b_is_bounded_assignment⟩
  have c_first_way : Cal l.prog w K mg base CX0 3 "first_way" p_first_way (sp_first_way K) := ⟨_, _, ok_first_way F_first_way T c_state_after c_options, m_first_way, k_first_way, b_first_way⟩
  have c__law_series : Cal l.prog w K mg base CX0 3 "_law_series" p__law_series (sp__law_seriesN K) := ⟨_, _, ok__law_series F__law_series T c__law_allocation c__law_next c__law_near, m__law_series, k__law_series, b__law_series⟩
  have c_are_allocations : Cal l.prog w K mg base CX0 4 "are_allocations" p_are_allocations (sp_are_allocations K) := ⟨_, _, ok_are_allocations F_are_allocations T c_is_bounded_allocation c_is_allocation, m_are_allocations, k_are_allocations, b_are_allocations⟩
  have c_check_assignment : Cal l.prog w K mg base CX0 4 "check_assignment" p_check_assignment (sp_check_assignment K) := ⟨_, _, ok_check_assignment F_check_assignment T c_require c_is_bounded_assignment, m_check_assignment, k_check_assignment, b_check_assignment⟩
  have c__law_small_series : Cal l.prog w K mg base CX0 4 "_law_small_series" p__law_small_series (sp__law_small_series48 K) := ⟨_, _, ok__law_small_series F__law_small_series T c__law_series c__law_next, m__law_small_series, k__law_small_series, b__law_small_series⟩
  have c_allocation_of : Cal l.prog w K mg base CX0 5 "allocation_of" p_allocation_of (sp_allocation_of K) := ⟨_, _, ok_allocation_of F_allocation_of T c_check_assignment c_check_enough, m_allocation_of, k_allocation_of, b_allocation_of⟩
  have c_check_steps : Cal l.prog w K mg base CX0 5 "check_steps" p_check_steps (sp_check_steps K) := ⟨_, _, ok_check_steps F_check_steps T c_require c_are_allocations, m_check_steps, k_check_steps, b_check_steps⟩
  have c_first_state : Cal l.prog w K mg base CX0 6 "first_state" p_first_state (sp_first_state K) := ⟨_, _, ok_first_state F_first_state T c_allocation_of, m_first_state, k_first_state, b_first_state⟩
  have c_decreases : Cal l.prog w K mg base CX0 6 "decreases" p_decreases (sp_decreases K) := ⟨_, _, ok_decreases F_decreases T c_check_steps c_steps_of, m_decreases, k_decreases, b_decreases⟩
  have c_overdrawn : Cal l.prog w K mg base CX0 7 "overdrawn" p_overdrawn (sp_overdrawn K) := ⟨_, _, ok_overdrawn F_overdrawn T c_decreases, m_overdrawn, k_overdrawn, b_overdrawn⟩
  have c_calm_change : Cal l.prog w K mg base CX0 7 "calm_change" p_calm_change (sp_calm_change K) := ⟨_, _, ok_calm_change F_calm_change T c_first_state c_first_way c_allocation_of, m_calm_change, k_calm_change, b_calm_change⟩
  have c_calm_history : Cal l.prog w K mg base CX0 8 "calm_history" p_calm_history (sp_calm_history K) := ⟨_, _, ok_calm_history F_calm_history T c_overdrawn c_ascending c_calm_change, m_calm_history, k_calm_history, b_calm_history⟩
  have c__law_equal : Cal l.prog w K mg base CX0 10 "_law_equal" p__law_equal (sp__law_equal K) := ⟨_, _, ok__law_equal F__law_equal T c__law_is_integer m__law_equal b__law_equal, m__law_equal, k__law_equal, b__law_equal⟩
  exact ok_law F_law T c__law_stream c__law_small_series c_calm_history c__law_transfer c__law_assignments c__law_equal c__law_sorted c_overdrawn c__law_churn c__law_changes
theorem walk {l : PySem.W.OpenLaw} {q : Program} {loose : List Str} {XP : (Str → Option Value) → Heap → Prop} {YP : World → Heap → Prop} {d : DefRec} {K : Params → PySem.W.Frag} (hn : l.most = some 63) (hdf : d.params.defaults = [])
    (hY : ∀ (w : World) (h : Heap), YP w h → (K w.params).In h)
    (F : ∀ (w : World) (mg : Str → Option Value) (fa : Addr) (h : Heap), (K w.params).In h → h.Ns mainGlobals mg → mg d.name = some (.ref fa) →
      ∃ fd : FuncData, (∀ (s : Shared) (u : Value), BindsTo s fd ⟨[u], []⟩ [("script", u)]) ∧ ∀ base : Heap, (K w.params).In base → base.Ns mainGlobals mg → FnOk l.prog w (K w.params) mg base CX0 11 fa fd ["script"] (spLaw (K w.params))) :
    PySem.W.WalkO q loose XP YP l.row.toRowW d [] (fun f vs => PySem.call f vs) :=
  L2.walk_of (n := 63) (k := 11) (x := "script") (CX := fun _ => CX0) (sp := fun w => spLaw (K w.params)) hn (by decide) hdf ⟨rfl, by decide, by decide⟩ hY F (fun _ _ a ns hl _ hS => ⟨a, ns, rfl, hS, hl, fun _ => rfl⟩) fun _ _ _ _ _ z => z
end W
open PySem PySem.W PyProof.Rows
set_option maxRecDepth 100000 in
set_option maxHeartbeats 0 in
theorem PySem.Challenge.cw_leastmoved_k48_whole_calm_histories_holds : PySem.Challenge.rw_leastmoved_k48_whole_calm_histories.Holds := by
  w_on; o_law; k_head; (case hw => w_witness2)
  k_fill
  refine W.walk (l := PySem.Challenge.rw_leastmoved_k48_whole_calm_histories) rfl rfl (fun w h Y => PySem.W.kIn_of Y) ?F
  case F =>
    intro w mg fa h KX G hmg
    refine' W.all_mk KX G hmg ?a_is_integer ?l_is_integer ?o_is_integer ?k_is_integer ?a_are_integers ?l_are_integers ?o_are_integers ?k_are_integers ?a_require ?l_require ?o_require ?k_require ?a_is_allocation ?l_is_allocation ?o_is_allocation ?k_is_allocation ?a_is_bounded_allocation ?l_is_bounded_allocation ?o_is_bounded_allocation ?k_is_bounded_allocation ?a_are_allocations ?l_are_allocations ?o_are_allocations ?k_are_allocations ?a_is_bounded_assignment ?l_is_bounded_assignment ?o_is_bounded_assignment ?k_is_bounded_assignment ?a_check_assignment ?l_check_assignment ?o_check_assignment ?k_check_assignment ?a_check_enough ?l_check_enough ?o_check_enough ?k_check_enough ?a_allocation_of ?l_allocation_of ?o_allocation_of ?k_allocation_of ?a_one_after_another ?l_one_after_another ?o_one_after_another ?k_one_after_another ?a_ascending ?l_ascending ?o_ascending ?k_ascending ?a_first_state ?l_first_state ?o_first_state ?k_first_state ?a_options ?l_options ?o_options ?k_options ?a_one_less ?l_one_less ?o_one_less ?k_one_less ?a_state_after ?l_state_after ?o_state_after ?k_state_after ?a_first_way ?l_first_way ?o_first_way ?k_first_way ?a_check_steps ?l_check_steps ?o_check_steps ?k_check_steps ?a_steps_of ?l_steps_of ?o_steps_of ?k_steps_of ?a_decreases ?l_decreases ?o_decreases ?k_decreases ?a_overdrawn ?l_overdrawn ?o_overdrawn ?k_overdrawn ?a_calm_change ?l_calm_change ?o_calm_change ?k_calm_change ?a_calm_history ?l_calm_history ?o_calm_history ?k_calm_history ?a__law_stream ?l__law_stream ?o__law_stream ?k__law_stream ?a__law_next ?l__law_next ?o__law_next ?k__law_next ?a__law_is_integer ?l__law_is_integer ?o__law_is_integer ?k__law_is_integer ?a__law_equal ?l__law_equal ?o__law_equal ?k__law_equal ?a__law_allocation ?l__law_allocation ?o__law_allocation ?k__law_allocation ?a__law_near ?l__law_near ?o__law_near ?k__law_near ?a__law_series ?l__law_series ?o__law_series ?k__law_series ?a__law_sorted ?l__law_sorted ?o__law_sorted ?k__law_sorted ?a__law_assignments ?l__law_assignments ?o__law_assignments ?k__law_assignments ?a__law_transfer ?l__law_transfer ?o__law_transfer ?k__law_transfer ?a__law_churn ?l__law_churn ?o__law_churn ?k__law_churn ?a__law_changes ?l__law_changes ?o__law_changes ?k__law_changes ?a__law_small_series ?l__law_small_series ?o__law_small_series ?k__law_small_series ?a_law ?l_law ?o_law ?k_law ?z_abs ?z_all ?z_bool ?z_enumerate ?z_int ?z_isinstance ?z_len ?z_list ?z_max ?z_min ?z_range ?z_sorted ?z_str ?z_sum ?z_tuple ?z_zip ?g_MOST_VARIANTS ?g_MOST_BUCKETS ?g_MOST_ALLOCATIONS
    (case a_is_integer => k_is); (case l_is_integer => k_is); (case o_is_integer => k_is); (case k_is_integer => k_is)
    (case a_are_integers => k_is); (case l_are_integers => k_is); (case o_are_integers => k_is); (case k_are_integers => k_is)
    (case a_require => k_is); (case l_require => k_is); (case o_require => k_is); (case k_require => k_is)
    (case a_is_allocation => k_is); (case l_is_allocation => k_is); (case o_is_allocation => k_is); (case k_is_allocation => k_is)
    (case a_is_bounded_allocation => k_is); (case l_is_bounded_allocation => k_is); (case o_is_bounded_allocation => k_is); (case k_is_bounded_allocation => k_is)
    (case a_are_allocations => k_is); (case l_are_allocations => k_is); (case o_are_allocations => k_is); (case k_are_allocations => k_is)
    (case a_is_bounded_assignment => k_is); (case l_is_bounded_assignment => k_is); (case o_is_bounded_assignment => k_is); (case k_is_bounded_assignment => k_is)
    (case a_check_assignment => k_is); (case l_check_assignment => k_is); (case o_check_assignment => k_is); (case k_check_assignment => k_is)
    (case a_check_enough => k_is); (case l_check_enough => k_is); (case o_check_enough => k_is); (case k_check_enough => k_is)
    (case a_allocation_of => k_is); (case l_allocation_of => k_is); (case o_allocation_of => k_is); (case k_allocation_of => k_is)
    (case a_one_after_another => k_is); (case l_one_after_another => k_is); (case o_one_after_another => k_is); (case k_one_after_another => k_is)
    (case a_ascending => k_is); (case l_ascending => k_is); (case o_ascending => k_is); (case k_ascending => k_is)
    (case a_first_state => k_is); (case l_first_state => k_is); (case o_first_state => k_is); (case k_first_state => k_is)
    (case a_options => k_is); (case l_options => k_is); (case o_options => k_is); (case k_options => k_is)
    (case a_one_less => k_is); (case l_one_less => k_is); (case o_one_less => k_is); (case k_one_less => k_is)
    (case a_state_after => k_is); (case l_state_after => k_is); (case o_state_after => k_is); (case k_state_after => k_is)
    (case a_first_way => k_is); (case l_first_way => k_is); (case o_first_way => k_is); (case k_first_way => k_is)
    (case a_check_steps => k_is); (case l_check_steps => k_is); (case o_check_steps => k_is); (case k_check_steps => k_is)
    (case a_steps_of => k_is); (case l_steps_of => k_is); (case o_steps_of => k_is); (case k_steps_of => k_is)
    (case a_decreases => k_is); (case l_decreases => k_is); (case o_decreases => k_is); (case k_decreases => k_is)
    (case a_overdrawn => k_is); (case l_overdrawn => k_is); (case o_overdrawn => k_is); (case k_overdrawn => k_is)
    (case a_calm_change => k_is); (case l_calm_change => k_is); (case o_calm_change => k_is); (case k_calm_change => k_is)
    (case a_calm_history => k_is); (case l_calm_history => k_is); (case o_calm_history => k_is); (case k_calm_history => k_is)
    (case a__law_stream => k_is); (case l__law_stream => k_is); (case o__law_stream => k_is); (case k__law_stream => k_is)
    (case a__law_next => k_is); (case l__law_next => k_is); (case o__law_next => k_is); (case k__law_next => k_is)
    (case a__law_is_integer => k_is); (case l__law_is_integer => k_is); (case o__law_is_integer => k_is); (case k__law_is_integer => k_is)
    (case a__law_equal => k_is); (case l__law_equal => k_is); (case o__law_equal => k_is); (case k__law_equal => k_is)
    (case a__law_allocation => k_is); (case l__law_allocation => k_is); (case o__law_allocation => k_is); (case k__law_allocation => k_is)
    (case a__law_near => k_is); (case l__law_near => k_is); (case o__law_near => k_is); (case k__law_near => k_is)
    (case a__law_series => k_is); (case l__law_series => k_is); (case o__law_series => k_is); (case k__law_series => k_is)
    (case a__law_sorted => k_is); (case l__law_sorted => k_is); (case o__law_sorted => k_is); (case k__law_sorted => k_is)
    (case a__law_assignments => k_is); (case l__law_assignments => k_is); (case o__law_assignments => k_is); (case k__law_assignments => k_is)
    (case a__law_transfer => k_is); (case l__law_transfer => k_is); (case o__law_transfer => k_is); (case k__law_transfer => k_is)
    (case a__law_churn => k_is); (case l__law_churn => k_is); (case o__law_churn => k_is); (case k__law_churn => k_is)
    (case a__law_changes => k_is); (case l__law_changes => k_is); (case o__law_changes => k_is); (case k__law_changes => k_is)
    (case a__law_small_series => k_is); (case l__law_small_series => k_is); (case o__law_small_series => k_is); (case k__law_small_series => k_is)
    (case a_law => k_is); (case l_law => k_is); (case o_law => k_is); (case k_law => k_is)
    (case z_abs => k_is)
    (case z_all => k_is)
    (case z_bool => k_is)
    (case z_enumerate => k_is)
    (case z_int => k_is)
    (case z_isinstance => k_is)
    (case z_len => k_is)
    (case z_list => k_is)
    (case z_max => k_is)
    (case z_min => k_is)
    (case z_range => k_is)
    (case z_sorted => k_is)
    (case z_str => k_is)
    (case z_sum => k_is)
    (case z_tuple => k_is)
    (case z_zip => k_is)
    (case g_MOST_VARIANTS => k_is)
    (case g_MOST_BUCKETS => k_is)
    (case g_MOST_ALLOCATIONS => k_is)
