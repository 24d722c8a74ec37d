import PyProof.Rows.All
import Wide.All
import OpenK.AllK
import Wide.FinOn
import HandS.ForMost
import HandS.TupAny
import HandS.Zip
import HandS.IsInst
import HandS.Walk
import HandS.SortInts
import HandS.Strs
import HandS.SetFor
import KE.GoesMore
import KE.GoesEnum
import HandS.SortKw
import PyProof.WalksMore
import HandS.Evl
import HandS.Conv
import PyProof.Draws
import KE.KItemsList
import HandS.Gcd
import KE.KMathGC
import HandS.Deep
import PyProof.ListNew
import HandS.GenList
import HandS.Sort
import HandS.ExcInit
import HandS.WordsExc
import HandS.FStr
import KE.KExcSuper
import KE.KSuper
import HandS.ExcOwn
import HandS.ExcField
import HandS.TupMul
import HandS.Style
import PyProof.CallType
import HandS.TupSets
import PyProof.P3In
import PyProof.Rows.SeqMore
import KE.SortData
import KE.SortLaws
import KE.SortKeyHeap
import HandS.WordsDict
import HandS.ExcIs
import KE.KExcIs
import PySem.Challenge.RW_leastmoved_k61_refusals_of_rules
set_option Elab.async false
set_option linter.all false
set_option maxRecDepth 100000
set_option maxHeartbeats 4000000
namespace Lm
open PySem PySem.Spec PyProof.Rows L2

/-- what is around: the written part, and (perhaps) the stream with the script's copy -/
structure Ct where
  K : PySem.W.Frag
  so : Option (Addr × Addr)
def okA (c : Ct) (a : Addr) : Prop := ∀ st l, c.so = some (st, l) → a ≠ st
/-- the stream at st: a copy of the script at l, a cell, a place -/
def Str1 (K : PySem.W.Frag) (st l : Addr) (H : Hp) : Prop :=
  ∃ (ns : List Int) (x k : Int), H st = some (.lst [.ref l, .int x, .int k]) ∧ H l = some (.lst (ns.map V.int)) ∧ l ≠ st ∧ 0 ≤ k
def Ji (c : Ct) (H : Hp) : Prop := ∀ st l, c.so = some (st, l) → Str1 c.K st l H
def Rr (c : Ct) (H H' : Hp) : Prop := (∀ a o, okA c a → H a = some o → H' a = some o) ∧ (Ji c H → Ji c H')
variable {c : Ct} {H H' H0 H1 H2 H3 : Hp}
theorem Rr.rf : Rr c H H := ⟨fun _ _ _ h => h, fun h => h⟩
theorem Rr.tr (a : Rr c H H1) (b : Rr c H1 H2) : Rr c H H2 := ⟨fun x o k h => b.1 x o k (a.1 x o k h), fun h => b.2 (a.2 h)⟩
theorem Ji.same (j : Ji c H) (e : Same H H') : Ji c H' := fun st l h => by
  obtain ⟨ns, x, k, h1, h2, h3, h4⟩ := j st l h
  exact ⟨ns, x, k, e _ _ h1, e _ _ h2, h3, h4⟩
theorem Rr.same (e : Same H H') : Rr c H H' := ⟨fun x o _ h => e x o h, fun j => j.same e⟩
theorem okA.fresh (j : Ji c H) {p : Addr} (h : H p = none) : okA c p := fun st l e z => by
  obtain ⟨ns, x, k, h1, _⟩ := j st l e
  rw [z, h1] at h
  cases h
theorem okA.tup (j : Ji c H) {p : Addr} {o : HO} (h : H p = some o) (n : ∀ xs, o ≠ .lst xs) : okA c p := fun st l e z => by
  obtain ⟨ns, x, k, h1, _⟩ := j st l e
  rw [z, h1] at h
  exact n _ (Option.some.inj h).symm
theorem Rr.back (r : Rr c H H') (j : Ji c H) {p : Addr} (h : H' p = none) : H p = none := by
  cases q : H p with
  | none => rfl
  | some o =>
    have k : okA c p := fun st l e z => by
      obtain ⟨ns, x, k, h1, _⟩ := r.2 j st l e
      rw [z, h1] at h
      cases h
    rw [r.1 p o k q] at h
    cases h
/-- a tuple (one that has no dict of its own) -/
def TpN (K : PySem.W.Frag) (H : Hp) (a : Addr) (xs : List V) : Prop :=
  (∃ o : Obj, o.dict = none ∧ H a = some (.frz o (.tup xs))) ∨
    ∃ (o : Obj) (its : Array Value) (n : Nat), K.lookup a = some o ∧ o.cls = .type "tuple" ∧ o.dict = none ∧ o.data = .seq its n ∧ its.size ≤ sizeLine ∧ Vals xs its.toList
theorem TpN.sq {K : PySem.W.Frag} {a : Addr} {xs : List V} (h : TpN K H a xs) : SqT K H a xs := by
  rcases h with ⟨o, _, h⟩ | ⟨o, its, n, h1, h2, _, h3, h4, h5⟩
  · exact .inl (.inr ⟨o, h⟩)
  · exact .inr ⟨o, its, n, h1, h2, h3, h4, h5⟩
theorem Rr.tup (r : Rr c H H') (j : Ji c H) {a : Addr} {xs : List V} (h : TpN c.K H a xs) : TpN c.K H' a xs := by
  rcases h with ⟨o, q, h⟩ | h
  · exact .inl ⟨o, q, r.1 _ _ (okA.tup j h (fun _ => by simp)) h⟩
  · exact .inr h
theorem Rr.lst (r : Rr c H H') {a : Addr} {xs : List V} (k : okA c a) (h : SqL c.K H a xs) : SqL c.K H' a xs := by
  rcases h with (h | ⟨o, h⟩) | h
  · exact .inl (.inl (r.1 _ _ k h))
  · exact .inl (.inr ⟨o, r.1 _ _ k h⟩)
  · exact .inr h

/-! ### values as data: ints, texts, tuples; lists whose addresses are not the stream's -/
mutual
inductive Bo (c : Ct) (H : Hp) : V → PyData → Prop
  | non : Bo c H .non .none
  | bl (b : Bool) : Bo c H (.bl b) (.bool b)
  | int (i : Int) : Bo c H (.int i) (.int i)
  | str (x : Str) : Bo c H (.str x) (.str x)
  | lst {a : Addr} {xs : List V} {ds : List PyData} : okA c a → SqL c.K H a xs → BoAll c H xs ds → Bo c H (.ref a) (.list ds)
  | tup {a : Addr} {xs : List V} {ds : List PyData} : TpN c.K H a xs → BoAll c H xs ds → Bo c H (.ref a) (.tuple ds)
inductive BoAll (c : Ct) (H : Hp) : List V → List PyData → Prop
  | nil : BoAll c H [] []
  | cons {v : V} {vs : List V} {d : PyData} {ds : List PyData} : Bo c H v d → BoAll c H vs ds → BoAll c H (v :: vs) (d :: ds)
end
mutual
theorem Bo.up (h : ∀ a xs, TpN c.K H a xs → TpN c.K H' a xs) (g : ∀ a xs, okA c a → SqL c.K H a xs → SqL c.K H' a xs) : ∀ {v : V} {d : PyData}, Bo c H v d → Bo c H' v d
  | _, _, .non => .non
  | _, _, .bl b => .bl b
  | _, _, .int b => .int b
  | _, _, .str b => .str b
  | _, _, .lst k s a => .lst k (g _ _ k s) (BoAll.up h g a)
  | _, _, .tup s a => .tup (h _ _ s) (BoAll.up h g a)
theorem BoAll.up (h : ∀ a xs, TpN c.K H a xs → TpN c.K H' a xs) (g : ∀ a xs, okA c a → SqL c.K H a xs → SqL c.K H' a xs) : ∀ {v : List V} {d : List PyData}, BoAll c H v d → BoAll c H' v d
  | _, _, .nil => .nil
  | _, _, .cons a b => .cons (Bo.up h g a) (BoAll.up h g b)
end
theorem Bo.mono (j : Ji c H) (r : Rr c H H') {v : V} {d : PyData} (h : Bo c H v d) : Bo c H' v d := h.up (fun _ _ s => r.tup j s) (fun _ _ k s => r.lst k s)
theorem BoAll.mono (j : Ji c H) (r : Rr c H H') {v : List V} {d : List PyData} (h : BoAll c H v d) : BoAll c H' v d := h.up (fun _ _ s => r.tup j s) (fun _ _ k s => r.lst k s)
theorem sqT_same {K : PySem.W.Frag} (e : Same H H') {a : Addr} {xs : List V} (h : TpN K H a xs) : TpN K H' a xs := by
  rcases h with ⟨o, q, h⟩ | h
  · exact .inl ⟨o, q, e _ _ h⟩
  · exact .inr h
theorem Bo.same (e : Same H H') {v : V} {d : PyData} (h : Bo c H v d) : Bo c H' v d := h.up (fun _ _ s => sqT_same e s) (fun _ _ k s => e.seq s)
theorem BoAll.same (e : Same H H') {v : List V} {d : List PyData} (h : BoAll c H v d) : BoAll c H' v d := h.up (fun _ _ s => sqT_same e s) (fun _ _ k s => e.seq s)
theorem BoAll.len : ∀ {v : List V} {d : List PyData}, BoAll c H v d → v.length = d.length
  | _, _, .nil => rfl
  | _, _, .cons _ b => by simp [BoAll.len b]
theorem BoAll.get : ∀ {v : List V} {d : List PyData} {i : Nat} {x : V}, BoAll c H v d → v[i]? = some x → ∃ e, d[i]? = some e ∧ Bo c H x e
  | _, _, _, _, .nil, h => by simp at h
  | _, _, 0, x, .cons a b, h => by
    have e : _ = x := Option.some.inj h
    subst e
    exact ⟨_, rfl, a⟩
  | _, _, i + 1, x, .cons a b, h => BoAll.get (i := i) b (by simpa using h)
theorem BoAll.gets : ∀ {v : List V} {d : List PyData} {i : Nat} {e : PyData}, BoAll c H v d → d[i]? = some e → ∃ x, v[i]? = some x ∧ Bo c H x e
  | _, _, _, _, .nil, h => by simp at h
  | _, _, 0, x, .cons a b, h => by
    have e : _ = x := Option.some.inj h
    subst e
    exact ⟨_, rfl, a⟩
  | _, _, i + 1, x, .cons a b, h => BoAll.gets (i := i) b (by simpa using h)
theorem BoAll.app : ∀ {v w : List V} {d e : List PyData}, BoAll c H v d → BoAll c H w e → BoAll c H (v ++ w) (d ++ e)
  | _, _, _, _, .nil, b => b
  | _, _, _, _, .cons a r, b => .cons a (BoAll.app r b)
theorem BoAll.set : ∀ {v : List V} {d : List PyData} {i : Nat} {x : V} {e : PyData}, BoAll c H v d → Bo c H x e → BoAll c H (v.set i x) (d.set i e)
  | _, _, _, _, _, .nil, b => .nil
  | _, _, 0, _, _, .cons a r, b => .cons b r
  | _, _, i + 1, _, _, .cons a r, b => .cons a (BoAll.set r b)
theorem BoAll.take : ∀ {v : List V} {d : List PyData} (i : Nat), BoAll c H v d → BoAll c H (v.take i) (d.take i)
  | _, _, 0, _ => .nil
  | _, _, i + 1, .nil => .nil
  | _, _, i + 1, .cons a b => .cons a (BoAll.take i b)
theorem BoAll.drop : ∀ {v : List V} {d : List PyData} (i : Nat), BoAll c H v d → BoAll c H (v.drop i) (d.drop i)
  | _, _, 0, h => h
  | _, _, i + 1, .nil => .nil
  | _, _, i + 1, .cons a b => BoAll.drop i b
theorem Bo.int' {v : V} {i : Int} (h : Bo c H v (.int i)) : v = .int i := by cases h; rfl
theorem Bo.bl' {v : V} {i : Bool} (h : Bo c H v (.bool i)) : v = .bl i := by cases h; rfl
theorem Bo.non' {v : V} (h : Bo c H v .none) : v = .non := by cases h; rfl
theorem Bo.tup' {v : V} {ds : List PyData} (h : Bo c H v (.tuple ds)) : ∃ a xs, v = .ref a ∧ TpN c.K H a xs ∧ BoAll c H xs ds := by cases h with | tup s a => exact ⟨_, _, rfl, s, a⟩
theorem Bo.lst' {v : V} {ds : List PyData} (h : Bo c H v (.list ds)) : ∃ a xs, v = .ref a ∧ okA c a ∧ SqL c.K H a xs ∧ BoAll c H xs ds := by cases h with | lst k s a => exact ⟨_, _, rfl, k, s, a⟩
theorem BoAll.ints : ∀ {v : List V} {ns : List Int}, BoAll c H v (ns.map PyData.int) → v = ns.map V.int
  | v, [], h => by cases h; rfl
  | v, n :: ns, h => by
    cases h with
    | cons a b => rw [a.int', BoAll.ints b]; rfl
theorem BoAll.ofInts : ∀ (ns : List Int), BoAll c H (ns.map V.int) (ns.map PyData.int)
  | [] => .nil
  | n :: ns => .cons (.int n) (BoAll.ofInts ns)
theorem BoAll.bools : ∀ {v : List V} {ns : List Bool}, BoAll c H v (ns.map PyData.bool) → v = ns.map V.bl
  | v, [], h => by cases h; rfl
  | v, n :: ns, h => by
    cases h with
    | cons a b => rw [a.bl', BoAll.bools b]; rfl
mutual
theorem Bo.dp : ∀ {v : V} {d : PyData}, Bo c H v d → Dp c.K H v d
  | _, _, .non => .non
  | _, _, .bl b => .bl b
  | _, _, .int b => .int b
  | _, _, .str b => .str b
  | _, _, .lst _ s a => .lst s (BoAll.dp a)
  | _, _, .tup s a => .tup s.sq (BoAll.dp a)
theorem BoAll.dp : ∀ {v : List V} {d : List PyData}, BoAll c H v d → DpAll c.K H v d
  | _, _, .nil => .nil
  | _, _, .cons a b => .cons (Bo.dp a) (BoAll.dp b)
end
/-! no stream, no care -/
mutual
theorem Bo.pure : ∀ {v : V} {d : PyData}, Bo c H v d → Bo ⟨c.K, none⟩ H v d
  | _, _, .non => .non
  | _, _, .bl b => .bl b
  | _, _, .int b => .int b
  | _, _, .str b => .str b
  | _, _, .lst _ s a => .lst (fun _ _ e => nomatch e) s (BoAll.pure a)
  | _, _, .tup s a => .tup s (BoAll.pure a)
theorem BoAll.pure : ∀ {v : List V} {d : List PyData}, BoAll c H v d → BoAll ⟨c.K, none⟩ H v d
  | _, _, .nil => .nil
  | _, _, .cons a b => .cons (Bo.pure a) (BoAll.pure b)
end
/-! data without lists -/
mutual
def flatD : PyData → Bool
  | .none => true
  | .bool _ => true
  | .int _ => true
  | .str _ => true
  | .tuple ds => flatAll ds
  | _ => false
def flatAll : List PyData → Bool
  | [] => true
  | d :: ds => flatD d && flatAll ds
end
theorem flatAll_ints (ns : List Int) : flatAll (ns.map PyData.int) = true := by
  induction ns with
  | nil => rfl
  | cons n ns ih =>
    show (flatD (.int n) && flatAll (ns.map PyData.int)) = true
    rw [ih]
    rfl
theorem flatAll_mem {ds : List PyData} (h : ∀ d ∈ ds, flatD d = true) : flatAll ds = true := by
  induction ds with
  | nil => rfl
  | cons d ds ih =>
    show (flatD d && flatAll ds) = true
    rw [h d (by simp), ih fun e he => h e (by simp [he])]
    rfl
mutual
theorem Bo.flat {c' : Ct} (hk : c'.K = c.K) : ∀ {v : V} {d : PyData}, flatD d = true → Bo c H v d → Bo c' H v d
  | _, _, _, .non => .non
  | _, _, _, .bl b => .bl b
  | _, _, _, .int b => .int b
  | _, _, _, .str b => .str b
  | _, _, q, .lst _ s a => by simp [flatD] at q
  | _, _, q, .tup s a => .tup (by rw [hk]; exact s) (BoAll.flat hk (by simpa [flatD] using q) a)
theorem BoAll.flat {c' : Ct} (hk : c'.K = c.K) : ∀ {v : List V} {d : List PyData}, flatAll d = true → BoAll c H v d → BoAll c' H v d
  | _, _, _, .nil => .nil
  | _, _, q, .cons a b => by
    have q' : (flatD _ && flatAll _) = true := q
    rw [Bool.and_eq_true] at q'
    exact .cons (Bo.flat hk q'.1 a) (BoAll.flat hk q'.2 b)
end

/-! ### the heap without some addresses -/
def mns (H : Hp) (O : List Addr) : Hp := fun a => if a ∈ O then none else H a
theorem mns_in {O : List Addr} {a : Addr} (h : a ∈ O) : mns H O a = none := if_pos h
theorem mns_out {O : List Addr} {a : Addr} (h : a ∉ O) : mns H O a = H a := if_neg h
theorem mns_same {O : List Addr} : Same (mns H O) H := fun a o h => by
  by_cases q : a ∈ O
  · rw [mns_in q] at h; cases h
  · rw [mns_out q] at h; exact h
theorem mns_some {O : List Addr} {a : Addr} {o : HO} (h : mns H O a = some o) : a ∉ O ∧ H a = some o := by
  by_cases q : a ∈ O
  · rw [mns_in q] at h; cases h
  · rw [mns_out q] at h; exact ⟨q, h⟩
theorem mns_sub {O O' : List Addr} (s : ∀ a, a ∈ O' → a ∈ O) : Same (mns H O) (mns H O') := fun a o h => by
  obtain ⟨q, h⟩ := mns_some h
  rw [mns_out (fun z => q (s a z))]
  exact h
theorem mns_nil : mns H [] = H := by
  funext a
  exact mns_out (by simp)
theorem Rr.mns {O : List Addr} (r : Rr c H H') (j : Ji c (mns H O)) (q : ∀ a ∈ O, okA c a) : Rr c (mns H O) (mns H' O) := by
  refine ⟨fun a o k h => ?_, fun _ st l e => ?_⟩
  · obtain ⟨n, h⟩ := mns_some h
    rw [mns_out n]
    exact r.1 a o k h
  · obtain ⟨ns, x, k, h1, h2, h3, h4⟩ := j st l e
    obtain ⟨n1, h1⟩ := mns_some h1
    obtain ⟨n2, h2⟩ := mns_some h2
    have jH : Ji c H := j.same mns_same
    obtain ⟨ns', x', k', g1, g2, g3, g4⟩ := r.2 jH st l e
    refine ⟨ns', x', k', ?_, ?_, g3, g4⟩
    · rw [mns_out n1]; exact g1
    · rw [mns_out n2]; exact g2
end Lm


namespace Lm
open PySem PySem.Spec PyProof.Rows L2
variable {c : Ct} {H H' H0 H1 H2 H3 : Hp} {O : List Addr}

/-! flat data leans on tuples alone -/
mutual
theorem Bo.flatTo {c' : Ct} (h : ∀ a xs, TpN c.K H a xs → TpN c'.K H' a xs) : ∀ {v : V} {d : PyData}, flatD d = true → Bo c H v d → Bo c' H' v d
  | _, _, _, .non => .non
  | _, _, _, .bl b => .bl b
  | _, _, _, .int b => .int b
  | _, _, _, .str b => .str b
  | _, _, q, .lst _ s a => by simp [flatD] at q
  | _, _, q, .tup s a => .tup (h _ _ s) (BoAll.flatTo h (by simpa [flatD] using q) a)
theorem BoAll.flatTo {c' : Ct} (h : ∀ a xs, TpN c.K H a xs → TpN c'.K H' a xs) : ∀ {v : List V} {d : List PyData}, flatAll d = true → BoAll c H v d → BoAll c' H' v d
  | _, _, _, .nil => .nil
  | _, _, q, .cons a b => by
    have q' : (flatD _ && flatAll _) = true := q
    rw [Bool.and_eq_true] at q'
    exact .cons (Bo.flatTo h q'.1 a) (BoAll.flatTo h q'.2 b)
end
/-- what may be written -/
def OwnU : HO → Prop
  | .lst _ => True
  | .dK _ => True
  | .dT _ => True
  | .set _ _ => True
  | _ => False
theorem sqT_mns {K : PySem.W.Frag} (hO : ∀ a ∈ O, ∃ u, H a = some u ∧ OwnU u) {a : Addr} {xs : List V} (h : TpN K H a xs) : TpN K (mns H O) a xs := by
  have n : ∀ u, H a = some u → ¬ OwnU u → mns H O a = some u := fun u e k => by
    have : a ∉ O := fun z => by
      obtain ⟨y, q, w⟩ := hO a z
      rw [q] at e
      exact k (Option.some.inj e ▸ w)
    rw [mns_out this]; exact e
  rcases h with ⟨o, q, h⟩ | h
  · exact .inl ⟨o, q, n _ h fun w => w⟩
  · exact .inr h
theorem sqT_updO {K : PySem.W.Frag} {p : Addr} {y o : HO} (hp : H p = some y) (hy : OwnU y) {a : Addr} {xs : List V} (h : TpN K H a xs) : TpN K (upd H p o) a xs := by
  have n : ∀ u, H a = some u → ¬ OwnU u → upd H p o a = some u := fun u e k => by
    have : a ≠ p := fun z => by
      rw [z, hp] at e
      exact k (Option.some.inj e ▸ hy)
    rw [upd_ne this]; exact e
  rcases h with ⟨o, q, h⟩ | h
  · exact .inl ⟨o, q, n _ h fun w => w⟩
  · exact .inr h
theorem sqT_upd {K : PySem.W.Frag} {p : Addr} {zs : List V} {o : HO} (hp : H p = some (.lst zs)) {a : Addr} {xs : List V} (h : TpN K H a xs) : TpN K (upd H p o) a xs := by
  have n : ∀ u, H a = some u → (∀ ys, u ≠ .lst ys) → upd H p o a = some u := fun u e k => by
    have : a ≠ p := fun z => by
      rw [z, hp] at e
      exact k zs (Option.some.inj e).symm
    rw [upd_ne this]; exact e
  rcases h with ⟨o, q, h⟩ | h
  · exact .inl ⟨o, q, n _ h fun _ => by simp⟩
  · exact .inr h

/-! ### lists of one's own: the addresses that may be written -/
mutual
inductive Fo (c : Ct) (H : Hp) : V → PyData → List Addr → Prop
  | leaf {v : V} {d : PyData} : flatD d = true → Bo c H v d → Fo c H v d []
  | lst {a : Addr} {xs : List V} {ds : List PyData} {fp : List Addr} : H a = some (.lst xs) → FoAll c H xs ds fp → Fo c H (.ref a) (.list ds) (a :: fp)
inductive FoAll (c : Ct) (H : Hp) : List V → List PyData → List Addr → Prop
  | nil : FoAll c H [] [] []
  | cons {v : V} {vs : List V} {d : PyData} {ds : List PyData} {f fs : List Addr} : Fo c H v d f → FoAll c H vs ds fs → FoAll c H (v :: vs) (d :: ds) (f ++ fs)
end
mutual
theorem Fo.up (h : ∀ a xs, TpN c.K H a xs → TpN c.K H' a xs) : ∀ {v : V} {d : PyData} {fp : List Addr}, (∀ a ∈ fp, ∀ o, H a = some o → H' a = some o) → Fo c H v d fp → Fo c H' v d fp
  | _, _, _, _, .leaf q b => .leaf q (b.flatTo h q)
  | _, _, _, k, .lst e a => .lst (k _ (by simp) _ e) (FoAll.up h (fun b hb => k b (by simp [hb])) a)
theorem FoAll.up (h : ∀ a xs, TpN c.K H a xs → TpN c.K H' a xs) : ∀ {v : List V} {d : List PyData} {fp : List Addr}, (∀ a ∈ fp, ∀ o, H a = some o → H' a = some o) → FoAll c H v d fp → FoAll c H' v d fp
  | _, _, _, _, .nil => .nil
  | _, _, _, k, .cons a b => .cons (Fo.up h (fun x hx => k x (by simp [hx])) a) (FoAll.up h (fun x hx => k x (by simp [hx])) b)
end
mutual
theorem Fo.bo : ∀ {v : V} {d : PyData} {fp : List Addr}, (∀ a ∈ fp, okA c a) → Fo c H v d fp → Bo c H v d
  | _, _, _, _, .leaf _ b => b
  | _, _, _, k, .lst e a => .lst (k _ (by simp)) (.inl (.inl e)) (FoAll.bo (fun b hb => k b (by simp [hb])) a)
theorem FoAll.bo : ∀ {v : List V} {d : List PyData} {fp : List Addr}, (∀ a ∈ fp, okA c a) → FoAll c H v d fp → BoAll c H v d
  | _, _, _, _, .nil => .nil
  | _, _, _, k, .cons a b => .cons (Fo.bo (fun x hx => k x (by simp [hx])) a) (FoAll.bo (fun x hx => k x (by simp [hx])) b)
end
theorem FoAll.leaves : ∀ {v : List V} {d : List PyData}, flatAll d = true → BoAll c H v d → FoAll c H v d []
  | _, _, _, .nil => .nil
  | _, _, q, .cons a b => by
    have q' : (flatD _ && flatAll _) = true := q
    rw [Bool.and_eq_true] at q'
    exact .cons (f := []) (fs := []) (.leaf q'.1 a) (FoAll.leaves q'.2 b)
mutual
theorem Fo.isL : ∀ {v : V} {d : PyData} {fp : List Addr}, Fo c H v d fp → ∀ a ∈ fp, ∃ xs, H a = some (.lst xs)
  | _, _, _, .leaf _ _, a, h => by simp at h
  | _, _, _, .lst e f, a, h => by
    rcases List.mem_cons.mp h with q | q
    · rw [q]; exact ⟨_, e⟩
    · exact FoAll.isL f a q
theorem FoAll.isL : ∀ {v : List V} {d : List PyData} {fp : List Addr}, FoAll c H v d fp → ∀ a ∈ fp, ∃ xs, H a = some (.lst xs)
  | _, _, _, .nil, a, h => by simp at h
  | _, _, _, .cons e f, a, h => by
    rcases List.mem_append.mp h with q | q
    · exact Fo.isL e a q
    · exact FoAll.isL f a q
end
theorem FoAll.app : ∀ {v w : List V} {d e : List PyData} {f g : List Addr}, FoAll c H v d f → FoAll c H w e g → FoAll c H (v ++ w) (d ++ e) (f ++ g)
  | _, _, _, _, _, _, .nil, b => b
  | _, _, _, _, _, _, .cons a r, b => by
    rw [List.append_assoc]
    exact .cons a (FoAll.app r b)
/-- a flat list of one's own -/
theorem Fo.list' {v : V} {ds : List PyData} {fp : List Addr} (h : Fo c H v (.list ds) fp) : ∃ a xs f, v = .ref a ∧ fp = a :: f ∧ H a = some (.lst xs) ∧ FoAll c H xs ds f := by
  cases h with
  | leaf q _ => simp [flatD] at q
  | lst e a => exact ⟨_, _, _, rfl, rfl, e, a⟩
theorem FoAll.flat0 : ∀ {v : List V} {d : List PyData} {f : List Addr}, flatAll d = true → FoAll c H v d f → f = [] ∧ BoAll c H v d
  | _, _, _, _, .nil => ⟨rfl, .nil⟩
  | _, _, _, q, .cons a b => by
    have q' : (flatD _ && flatAll _) = true := q
    rw [Bool.and_eq_true] at q'
    obtain ⟨e1, b1⟩ := FoAll.flat0 q'.2 b
    cases a with
    | leaf _ x => exact ⟨by rw [e1]; rfl, .cons x b1⟩
    | lst _ _ => simp [flatD] at q'

/-! ### what the slots hold -/
inductive Rs where
  /-- a value that will not change -/
  | v (d : PyData)
  /-- a list of one's own -/
  | o (d : PyData)
  /-- this very value -/
  | r (x : V)
  /-- a dict or set of one's own -/
  | d (u : HO)
  /-- a list of one's own whose items stay -/
  | w (ds : List PyData)
def RepO (c : Ct) (O : List Addr) (H : Hp) (x : Option V) : Option Rs → List Addr → Prop
  | none, fp => fp = []
  | some (.v d), fp => fp = [] ∧ ∃ v, x = some v ∧ Bo c (mns H O) v d
  | some (.o d), fp => ∃ v, x = some v ∧ Fo c H v d fp
  | some (.r y), fp => fp = [] ∧ x = some y
  | some (.d u), fp => ∃ a, fp = [a] ∧ x = some (.ref a) ∧ H a = some u ∧ OwnU u
  | some (.w ds), fp => ∃ a xs, fp = [a] ∧ x = some (.ref a) ∧ H a = some (.lst xs) ∧ BoAll c (mns H O) xs ds
inductive Reps (c : Ct) (O : List Addr) (H : Hp) : L2.St → List (Option Rs) → List Addr → Prop
  | nil : Reps c O H [] [] []
  | cons {x : Option V} {s : Option Rs} {f fs : List Addr} {σ : L2.St} {Γ : List (Option Rs)} : RepO c O H x s f → Reps c O H σ Γ fs → Reps c O H (x :: σ) (s :: Γ) (f ++ fs)
theorem Reps.len {σ : L2.St} {Γ : List (Option Rs)} {fp : List Addr} (h : Reps c O H σ Γ fp) : σ.length = Γ.length := by
  induction h with
  | nil => rfl
  | cons _ _ ih => simp [ih]
theorem Reps.map {O' : List Addr} {σ : L2.St} {Γ : List (Option Rs)} {fp : List Addr} (h : Reps c O H σ Γ fp) (k : ∀ x s f, (∀ a ∈ f, a ∈ fp) → RepO c O H x s f → RepO c O' H' x s f) : Reps c O' H' σ Γ fp := by
  induction h with
  | nil => exact .nil
  | cons a b ih => exact .cons (k _ _ _ (fun x hx => by simp [hx]) a) (ih fun x s f q => k x s f fun y hy => by simp [q y hy])
/-- the i-th slot, and how it is changed -/
theorem Reps.nth {σ : L2.St} {Γ : List (Option Rs)} {fp : List Addr} (h : Reps c O H σ Γ fp) : ∀ {i : Nat} {s : Option Rs}, Γ[i]? = some s →
    ∃ x f pre post, σ[i]? = some x ∧ RepO c O H x s f ∧ fp = pre ++ (f ++ post) ∧
      ∀ (O' : List Addr) (H' : Hp) (x' : Option V) (s' : Option Rs) (f' : List Addr), (∀ y t g, (∀ a ∈ g, a ∈ pre ++ post) → RepO c O H y t g → RepO c O' H' y t g) → RepO c O' H' x' s' f' → Reps c O' H' (σ.set i x') (Γ.set i s') (pre ++ (f' ++ post)) := by
  induction h with
  | nil => intro i s e; simp at e
  | cons a b ih =>
    rename_i x0 s0 f0 fs0 σ0 Γ0
    intro i s e
    cases i with
    | zero =>
      have e' : s0 = s := by simpa using e
      subst e'
      refine ⟨x0, f0, [], fs0, rfl, a, rfl, fun O' H' x' s' f' k r => ?_⟩
      show Reps c O' H' (x' :: σ0) (s' :: Γ0) (f' ++ fs0)
      exact .cons r (b.map fun y t g q z => k y t g (fun u hu => by simpa using q u hu) z)
    | succ i =>
      obtain ⟨x, f, pre, post, h1, h2, h3, h4⟩ := ih (i := i) (by simpa using e)
      refine ⟨x, f, f0 ++ pre, post, by simpa using h1, h2, by rw [h3]; simp, fun O' H' x' s' f' k r => ?_⟩
      have := h4 O' H' x' s' f' (fun y t g q z => k y t g (fun u hu => by have := q u hu; simp at this ⊢; rcases this with w | w <;> simp [w]) z) r
      rw [List.append_assoc]
      exact .cons (k _ _ _ (fun u hu => by simp [hu]) a) this

/-- the entry's heap H0, the addresses of one's own O, the heap H, the slots σ and what they hold -/
structure Env (c : Ct) (H0 : Hp) (O : List Addr) (H : Hp) (σ : L2.St) (Γ : List (Option Rs)) : Prop where
  r0 : Rr c H0 (mns H O)
  j : Ji c (mns H O)
  fr : ∀ a ∈ O, H0 a = none
  dm : ∀ a ∈ O, ∃ u, H a = some u ∧ OwnU u
  rep : ∃ fp, Reps c O H σ Γ fp ∧ fp.Nodup ∧ ∀ a ∈ fp, a ∈ O
variable {σ : L2.St} {Γ : List (Option Rs)}
theorem Env.jH (e : Env c H0 O H σ Γ) : Ji c H := e.j.same mns_same
theorem Env.okO (e : Env c H0 O H σ Γ) : ∀ a ∈ O, okA c a := fun a ha st l q z => by
  obtain ⟨ns, x, k, h1, _⟩ := e.j st l q
  rw [← z, mns_in ha] at h1
  cases h1
theorem Env.rH (e : Env c H0 O H σ Γ) : Rr c H0 H := e.r0.tr (Rr.same mns_same)
theorem Env.len (e : Env c H0 O H σ Γ) : σ.length = Γ.length := let ⟨_, h, _⟩ := e.rep; h.len
/-- the heap goes on -/
theorem Env.on (e : Env c H0 O H σ Γ) (r : Rr c H H') : Env c H0 O H' σ Γ := by
  have rm := r.mns e.j e.okO
  refine ⟨e.r0.tr rm, rm.2 e.j, e.fr, fun a ha => ?_, ?_⟩
  · obtain ⟨u, q, w⟩ := e.dm a ha
    exact ⟨u, r.1 a _ (e.okO a ha) q, w⟩
  · obtain ⟨fp, h, nd, sub⟩ := e.rep
    refine ⟨fp, h.map fun x s f q z => ?_, nd, sub⟩
    cases s with
    | none => exact z
    | some s =>
      cases s with
      | v d => exact ⟨z.1, z.2.elim fun v hv => ⟨v, hv.1, hv.2.mono e.j rm⟩⟩
      | o d => exact z.elim fun v hv => ⟨v, hv.1, hv.2.up (fun _ _ s => r.tup e.jH s) fun a ha o ho => r.1 a o (e.okO a (sub a (q a ha))) ho⟩
      | r y => exact z
      | d u => exact z.elim fun a ⟨w1, w2, w3, w4⟩ => ⟨a, w1, w2, r.1 a _ (e.okO a (sub a (q a (by rw [w1]; simp)))) w3, w4⟩
      | w ds => exact z.elim fun a ⟨xs, w1, w2, w3, w4⟩ => ⟨a, xs, w1, w2, r.1 a _ (e.okO a (sub a (q a (by rw [w1]; simp)))) w3, w4.mono e.j rm⟩
theorem Env.slotV (e : Env c H0 O H σ Γ) {i : Nat} {d : PyData} (h : Γ[i]? = some (some (.v d))) : ∃ v, σ[i]? = some (some v) ∧ Bo c (mns H O) v d := by
  obtain ⟨fp, hr, nd, sub⟩ := e.rep
  obtain ⟨x, f, pre, post, h1, h2, h3, h4⟩ := hr.nth h
  obtain ⟨v, hv, b⟩ := h2.2
  subst hv
  exact ⟨v, h1, b⟩
theorem Env.slotO (e : Env c H0 O H σ Γ) {i : Nat} {d : PyData} (h : Γ[i]? = some (some (.o d))) : ∃ v fp, σ[i]? = some (some v) ∧ Fo c H v d fp ∧ fp.Nodup ∧ ∀ a ∈ fp, a ∈ O := by
  obtain ⟨fp, hr, nd, sub⟩ := e.rep
  obtain ⟨x, f, pre, post, h1, h2, h3, h4⟩ := hr.nth h
  obtain ⟨v, hv, b⟩ := h2
  subst hv
  subst h3
  have n2 := (List.nodup_append.mp nd).2.1
  exact ⟨v, f, h1, b, (List.nodup_append.mp n2).1, fun a ha => sub a (by simp [ha])⟩
theorem Env.slotR (e : Env c H0 O H σ Γ) {i : Nat} {y : V} (h : Γ[i]? = some (some (.r y))) : σ[i]? = some (some y) := by
  obtain ⟨fp, hr, nd, sub⟩ := e.rep
  obtain ⟨x, f, pre, post, h1, h2, h3, h4⟩ := hr.nth h
  have hy : x = some y := h2.2
  rw [h1, hy]
/-- any slot is given another value that does not change -/
theorem Env.setV (e : Env c H0 O H σ Γ) {i : Nat} {v : V} {d : PyData} (b : Bo c (mns H O) v d) : Env c H0 O H (σ.set i (some v)) (Γ.set i (some (.v d))) := by
  refine ⟨e.r0, e.j, e.fr, e.dm, ?_⟩
  obtain ⟨fp, hr, nd, sub⟩ := e.rep
  by_cases hi : i < Γ.length
  · obtain ⟨x, f, pre, post, h1, h2, h3, h4⟩ := hr.nth (s := Γ[i]) (List.getElem?_eq_getElem hi)
    subst h3
    refine ⟨pre ++ ([] ++ post), h4 O H _ _ [] (fun _ _ _ _ z => z) ⟨rfl, v, rfl, b⟩, ?_, fun a ha => sub a ?_⟩
    · refine nd.sublist ?_
      simp
    · simp at ha ⊢
      rcases ha with q | q <;> simp [q]
  · have hs : ¬ i < σ.length := by rw [hr.len]; exact hi
    rw [List.set_eq_of_length_le (by omega), List.set_eq_of_length_le (by omega)]
    exact ⟨fp, hr, nd, sub⟩
/-- a slot is forgotten, whatever it holds then -/
theorem Env.setN (e : Env c H0 O H σ Γ) {i : Nat} {x : Option V} : Env c H0 O H (σ.set i x) (Γ.set i none) := by
  refine ⟨e.r0, e.j, e.fr, e.dm, ?_⟩
  obtain ⟨fp, hr, nd, sub⟩ := e.rep
  by_cases hi : i < Γ.length
  · obtain ⟨y, f, pre, post, h1, h2, h3, h4⟩ := hr.nth (s := Γ[i]) (List.getElem?_eq_getElem hi)
    subst h3
    refine ⟨pre ++ ([] ++ post), h4 O H _ _ [] (fun _ _ _ _ z => z) rfl, ?_, fun a ha => sub a ?_⟩
    · refine nd.sublist ?_
      simp
    · simp at ha ⊢
      rcases ha with q | q <;> simp [q]
  · have hs : ¬ i < σ.length := by rw [hr.len]; exact hi
    rw [List.set_eq_of_length_le (by omega), List.set_eq_of_length_le (by omega)]
    exact ⟨fp, hr, nd, sub⟩
/-- a slot is given a new list -/
theorem Env.setO (e : Env c H0 O H σ Γ) (r : Rr c H H') {i : Nat} {v : V} {d : PyData} {f : List Addr} (b : Fo c H' v d f) (nd' : f.Nodup) (new : ∀ a ∈ f, H a = none) :
    Env c H0 (f ++ O) H' (σ.set i (some v)) (Γ.set i (some (.o d))) := by
  have e' := e.on r
  have hdis : ∀ a ∈ f, a ∉ O := fun a ha hO => by
    obtain ⟨xs, q, _⟩ := e.dm a hO
    rw [new a ha] at q
    cases q
  have hn : ∀ a ∈ f, mns H O a = none := fun a ha => by
    rw [mns_out (hdis a ha)]; exact new a ha
  have same : Same (mns H O) (mns H' (f ++ O)) → True := fun _ => trivial
  have hrm : Rr c (mns H O) (mns H' (f ++ O)) := by
    have rm := r.mns e.j e.okO
    refine ⟨fun a o k h => ?_, fun _ st l q => ?_⟩
    · have h' := rm.1 a o k h
      obtain ⟨n1, h'⟩ := mns_some h'
      have : a ∉ f := fun z => by rw [hn a z] at h; cases h
      rw [mns_out (by simp [this, n1])]
      exact h'
    · obtain ⟨ns, x, k, h1, h2, h3, h4⟩ := e.j st l q
      obtain ⟨ns', x', k', g1, g2, g3, g4⟩ := e'.j st l q
      obtain ⟨m1, g1⟩ := mns_some g1
      obtain ⟨m2, g2⟩ := mns_some g2
      have a1 : st ∉ f := fun z => by rw [hn _ z] at h1; cases h1
      have a2 : l ∉ f := fun z => by rw [hn _ z] at h2; cases h2
      exact ⟨ns', x', k', by rw [mns_out (by simp [a1, m1])]; exact g1, by rw [mns_out (by simp [a2, m2])]; exact g2, g3, g4⟩
  have jn : Ji c (mns H' (f ++ O)) := hrm.2 e.j
  refine ⟨e.r0.tr hrm, jn, fun a ha => ?_, fun a ha => ?_, ?_⟩
  · rcases List.mem_append.mp ha with q | q
    · have := e.r0
      cases h : H0 a with
      | none => rfl
      | some o =>
        have jH0 : okA c a := fun st l q' z => by
          obtain ⟨ns, x, k, h1, _⟩ := e.j st l q'
          rw [← z, hn a q] at h1
          cases h1
        have := e.r0.1 a o jH0 h
        rw [hn a q] at this
        cases this
    · exact e.fr a q
  · rcases List.mem_append.mp ha with q | q
    · exact (b.isL a q).elim fun xs h => ⟨_, h, trivial⟩
    · exact e'.dm a q
  · obtain ⟨fp, hr, nd, sub⟩ := e.rep
    have keep : ∀ y t g, (∀ a ∈ g, a ∈ O) → RepO c O H y t g → RepO c (f ++ O) H' y t g := fun y t g hg z => by
      cases t with
      | none => exact z
      | some t =>
        cases t with
        | v d => exact ⟨z.1, z.2.elim fun v hv => ⟨v, hv.1, hv.2.mono e.j hrm⟩⟩
        | o d => exact z.elim fun v hv => ⟨v, hv.1, hv.2.up (fun _ _ s => r.tup e.jH s) fun a ha o ho => r.1 a o (e.okO a (hg a ha)) ho⟩
        | r y => exact z
        | d u => exact z.elim fun a ⟨w1, w2, w3, w4⟩ => ⟨a, w1, w2, r.1 a _ (e.okO a (hg a (by rw [w1]; simp))) w3, w4⟩
        | w ds => exact z.elim fun a ⟨xs, w1, w2, w3, w4⟩ => ⟨a, xs, w1, w2, r.1 a _ (e.okO a (hg a (by rw [w1]; simp))) w3, w4.mono e.j hrm⟩
    by_cases hi : i < Γ.length
    · obtain ⟨x, g, pre, post, h1, h2, h3, h4⟩ := hr.nth (s := Γ[i]) (List.getElem?_eq_getElem hi)
      subst h3
      refine ⟨pre ++ (f ++ post), h4 _ _ _ _ f (fun y t g' q z => keep y t g' (fun a ha => sub a (by have := q a ha; simp at this ⊢; rcases this with w | w <;> simp [w])) z) ⟨v, rfl, b⟩, ?_, fun a ha => ?_⟩
      · have n0 : (pre ++ post).Nodup := nd.sublist (by simp)
        rw [List.nodup_append] at n0 ⊢
        refine ⟨n0.1, ?_, ?_⟩
        · rw [List.nodup_append]
          refine ⟨nd', n0.2.1, fun a ha b' hb q => ?_⟩
          subst q
          exact hdis a ha (sub a (by simp [hb]))
        · intro a ha b' hb q
          subst q
          rcases List.mem_append.mp hb with w | w
          · exact hdis a w (sub a (by simp [ha]))
          · exact n0.2.2 a ha a w rfl
      · simp only [List.mem_append] at ha ⊢
        rcases ha with q | q | q
        · exact .inr (sub a (by simp [q]))
        · exact .inl q
        · exact .inr (sub a (by simp [q]))
    · have hs : ¬ i < σ.length := by rw [hr.len]; exact hi
      rw [List.set_eq_of_length_le (by omega), List.set_eq_of_length_le (by omega)]
      exact ⟨fp, hr.map fun x s g q z => keep x s g (fun a ha => sub a (q a ha)) z, nd, fun a ha => by simp [sub a ha]⟩
/-- a list of one's own is written: the slot's list at p -/
theorem Env.write (e : Env c H0 O H σ Γ) {i : Nat} {ds es : List PyData} (h : Γ[i]? = some (some (.o (.list ds)))) :
    ∃ p xs f, σ[i]? = some (some (.ref p)) ∧ H p = some (.lst xs) ∧ FoAll c H xs ds f ∧ p ∉ f ∧ (∀ a ∈ f, a ∈ O) ∧
      ∀ ys : List V, FoAll c (upd H p (.lst ys)) ys es f → Env c H0 O (upd H p (.lst ys)) σ (Γ.set i (some (.o (.list es)))) := by
  obtain ⟨fp, hr, nd, sub⟩ := e.rep
  obtain ⟨x, f0, pre, post, h1, h2, h3, h4⟩ := hr.nth h
  obtain ⟨v, hv, b⟩ := h2
  subst hv
  obtain ⟨p, xs, f, rfl, rfl, hp, hfa⟩ := b.list'
  subst h3
  have hpO : p ∈ O := sub p (by simp)
  have n2 := (List.nodup_append.mp nd).2.1
  have hpf : p ∉ f := fun z => by
    have := (List.nodup_append.mp n2).1
    exact (List.nodup_cons.mp this).1 z
  refine ⟨p, xs, f, h1, hp, hfa, hpf, fun a ha => sub a (by simp [ha]), fun ys hy => ?_⟩
  have em : mns (upd H p (.lst ys)) O = mns H O := by
    funext a
    by_cases ha : a ∈ O
    · rw [mns_in ha, mns_in ha]
    · rw [mns_out ha, mns_out ha, upd_ne (fun z => ha (by rw [z]; exact hpO))]
  refine ⟨by rw [em]; exact e.r0, by rw [em]; exact e.j, e.fr, fun a ha => ?_, ?_⟩
  · by_cases q : a = p
    · rw [q]; exact ⟨_, upd_same, trivial⟩
    · rw [upd_ne q]; exact e.dm a ha
  · have hσ : σ.set i (some (.ref p)) = σ := by
      obtain ⟨hlt, e1⟩ := List.getElem?_eq_some_iff.mp h1
      rw [← e1]
      exact List.set_getElem_self hlt
    have := h4 O (upd H p (.lst ys)) (some (.ref p)) (some (.o (.list es))) (p :: f) (fun y t g q z => ?_) ⟨.ref p, rfl, .lst upd_same hy⟩
    · rw [hσ] at this
      exact ⟨_, this, nd, sub⟩
    · cases t with
      | none => exact z
      | some t =>
        cases t with
        | v d => exact ⟨z.1, z.2.elim fun v hv => ⟨v, hv.1, by rw [em]; exact hv.2⟩⟩
        | o d =>
          refine z.elim fun v hv => ⟨v, hv.1, hv.2.up (fun _ _ s => sqT_upd hp s) fun a ha o ho => ?_⟩
          have : a ≠ p := fun w => by
            subst w
            have hm := q a ha
            rcases List.mem_append.mp hm with u | u
            · exact (List.nodup_append.mp nd).2.2 a u a (by simp) rfl
            · exact (List.nodup_append.mp n2).2.2 a (by simp) a u rfl
          rw [upd_ne this]
          exact ho
        | r y => exact z
        | d u =>
          refine z.elim fun a ⟨w1, w2, w3, w4⟩ => ⟨a, w1, w2, ?_, w4⟩
          have : a ≠ p := fun w => by
            subst w
            have hm := q a (by rw [w1]; simp)
            rcases List.mem_append.mp hm with u | u
            · exact (List.nodup_append.mp nd).2.2 a u a (by simp) rfl
            · exact (List.nodup_append.mp n2).2.2 a (by simp) a u rfl
          rw [upd_ne this]
          exact w3
        | w ds =>
          refine z.elim fun a ⟨xs, w1, w2, w3, w4⟩ => ⟨a, xs, w1, w2, ?_, by rw [em]; exact w4⟩
          have : a ≠ p := fun w => by
            subst w
            have hm := q a (by rw [w1]; simp)
            rcases List.mem_append.mp hm with u | u
            · exact (List.nodup_append.mp nd).2.2 a u a (by simp) rfl
            · exact (List.nodup_append.mp n2).2.2 a (by simp) a u rfl
          rw [upd_ne this]
          exact w3
/-- from now on this list is not written -/
theorem Env.freeze (e : Env c H0 O H σ Γ) {i : Nat} {d : PyData} (h : Γ[i]? = some (some (.o d))) : ∃ O', Env c H0 O' H σ (Γ.set i (some (.v d))) ∧ Same (mns H O) (mns H O') := by
  obtain ⟨fp, hr, nd, sub⟩ := e.rep
  obtain ⟨x, f, pre, post, h1, h2, h3, h4⟩ := hr.nth h
  obtain ⟨v, hv, b⟩ := h2
  subst hv
  subst h3
  have n2 := (List.nodup_append.mp nd).2.1
  have dis : ∀ a ∈ pre ++ post, a ∉ f := fun a ha hf => by
    rcases List.mem_append.mp ha with u | u
    · exact (List.nodup_append.mp nd).2.2 a u a (by simp [hf]) rfl
    · exact (List.nodup_append.mp n2).2.2 a hf a u rfl
  have hm : ∀ a, a ∈ O.filter (fun a => !decide (a ∈ f)) ↔ a ∈ O ∧ a ∉ f := fun a => by simp [List.mem_filter]
  have sm : Same (mns H O) (mns H (O.filter fun a => !decide (a ∈ f))) := mns_sub fun a ha => ((hm a).mp ha).1
  refine ⟨O.filter fun a => !decide (a ∈ f), ⟨e.r0.tr (Rr.same sm), e.j.same sm, fun a ha => e.fr a ((hm a).mp ha).1, fun a ha => e.dm a ((hm a).mp ha).1, ?_⟩, sm⟩
  have hσ : σ.set i (some v) = σ := by
    obtain ⟨hlt, e1⟩ := List.getElem?_eq_some_iff.mp h1
    rw [← e1]
    exact List.set_getElem_self hlt
  have hb : Bo c (mns H (O.filter fun a => !decide (a ∈ f))) v d := by
    refine Fo.bo (fun a ha => e.okO a (sub a (by simp [ha]))) (b.up (fun a xs s => sqT_mns (fun b' hb' => e.dm b' ((hm b').mp hb').1) s) fun a ha o ho => ?_)
    rw [mns_out fun z => ((hm a).mp z).2 ha]
    exact ho
  have := h4 (O.filter fun a => !decide (a ∈ f)) H (some v) (some (.v d)) [] (fun y t g q z => ?_) ⟨rfl, v, rfl, hb⟩
  · rw [hσ] at this
    exact ⟨_, this, nd.sublist (by simp), fun a ha => (hm a).mpr ⟨sub a (by simp at ha ⊢; rcases ha with w | w <;> simp [w]), dis a (by simpa using ha)⟩⟩
  · cases t with
    | none => exact z
    | some t =>
      cases t with
      | v d => exact ⟨z.1, z.2.elim fun v hv => ⟨v, hv.1, hv.2.same sm⟩⟩
      | o d => exact z
      | r y => exact z
      | d u => exact z
      | w ds => exact z.elim fun a ⟨xs, w1, w2, w3, w4⟩ => ⟨a, xs, w1, w2, w3, w4.same sm⟩
/-- a later entry is as good as an earlier one -/
theorem Env.base (e : Env c H0 O H σ Γ) : Env c (mns H O) O H σ Γ := ⟨Rr.rf, e.j, fun a ha => mns_in ha, e.dm, e.rep⟩
theorem Env.fromB {O1 : List Addr} {σ1 : L2.St} {Γ1 : List (Option Rs)} (e : Env c H0 O H σ Γ) (e1 : Env c (mns H O) O1 H1 σ1 Γ1) : Env c H0 O1 H1 σ1 Γ1 :=
  ⟨e.r0.tr e1.r0, e1.j, (fun a ha => by
    have h1 := e1.fr a ha
    cases h : H0 a with
    | none => rfl
    | some o =>
      have k : okA c a := fun st l q z => by
        obtain ⟨ns, x, k, g1, _⟩ := e.j st l q
        rw [← z, h1] at g1
        cases g1
      have := e.r0.1 a o k h
      rw [h1] at this
      cases this), e1.dm, e1.rep⟩
end Lm


namespace Lm
open PySem PySem.Spec PyProof.Rows L2
section
variable {X : Cx} {H : Hp}
def NewT (H : Hp) (xs : List V) (Q : VK) : Prop := ∀ p o, o.dict = none → H p = none → Q (.ref p) (upd H p (.frz o (.tup xs)))
theorem newT {pins : List (Addr × Obj)} {σ : L2.St} {s : Shared} {xs : List V} {us : List Value} {Q : VK} (I : Inv X pins σ H s) (r : Vals xs us) (z : xs.length ≤ sizeLine) (q : NewT H xs Q) :
    EP X pins σ Q (.ref s.heap.objs.size) { s with heap := s.heap.push { cls := .type "tuple", data := .seq us.toArray } } := by
  refine ⟨.ref s.heap.objs.size, upd H s.heap.objs.size (.frz { cls := .type "tuple", data := .seq us.toArray } (.tup xs)), I.laid (t' := s.toks) (fun b u e => Heap.get?_push_of_some _ e) (Nat.le_refl _) ?_, rfl, q _ _ rfl (I.hok.fresh (Nat.le_refl _))⟩
  exact ⟨Heap.get?_push_size _ rfl, z, us, r, ⟨_, Heap.get?_push_size _ rfl, rfl, _, rfl⟩⟩
def tTupN (t : TA) : TE := fun σ H Q => t σ H fun xs H1 => xs.length ≤ sizeLine ∧ NewT H1 xs Q
theorem pe_tupN {es : List Expr} {t : TA} {pos : Pos} {x1} (h : PA X es t) : PE X (.Tuple es x1 pos) (tTupN t) := by
  refine ⟨fun pins s σ H Q I hq => ?_⟩
  refine wpAny_Tuple_spliced (thn (h.run pos pins s σ H _ I hq) fun us s1 ⟨xs, H1, I1, r, z, q⟩ => ⟨by rw [← r.length]; exact z, ?_⟩)
  exact newT I1 r z q
/-- tuple(list), tuple(tuple) -/
def rTuple (K : PySem.W.Frag) : List V → Hp → VK → Prop := fun xs H Q => ∃ p ys, xs = [.ref p] ∧ ((SqL K H p ys ∧ NewT H ys Q) ∨ (SqT K H p ys ∧ Q (.ref p) H))
theorem cr_tuple : CallR X (.type "tuple") (rTuple X.K) := by
  intro pins s σ H xs us Q I r h
  obtain ⟨p, ys, rfl, h⟩ := h
  obtain ⟨u, rfl, rx⟩ := vals1 r
  cases rx
  rcases h with ⟨hq, q⟩ | ⟨hq, q⟩
  · obtain ⟨its, r', pl, hz⟩ := I.list hq
    have hlen := r'.length
    refine call_tuple_list pl.isList (fun h' kp => ?_) (by simp only [List.size_toArray] <;> omega)
    have I1 : Inv X pins σ H { s with heap := h' } := I.kept (t' := s.toks) kp
    exact newT I1 r' hz q
  · obtain ⟨its, r', pl, hz⟩ := I.tuple hq
    exact call_tuple_same pl ⟨.ref p, H, I, rfl, q⟩
/-- t + u -/
def rCatN (K : PySem.W.Frag) : R2 := fun x y H Q => ∃ a b xs ys, x = .ref a ∧ y = .ref b ∧ SqT K H a xs ∧ SqT K H b ys ∧ xs.length + ys.length ≤ sizeLine ∧
  (xs = [] → Q (.ref b) H) ∧ (xs ≠ [] → ys = [] → Q (.ref a) H) ∧ (xs ≠ [] → ys ≠ [] → NewT H (xs ++ ys) Q)
theorem op_catN : OpR X (binaryOp .Add) (rCatN X.K) := by
  intro pins s σ H x y v u Q I rx ry h
  obtain ⟨a, b, xs, ys, rfl, rfl, ha, hb, hz, q0, q1, q2⟩ := h
  cases rx
  cases ry
  obtain ⟨its, r1, p1, _⟩ := I.tuple ha
  obtain ⟨its2, r2, p2, _⟩ := I.tuple hb
  by_cases hx : xs = []
  · subst hx
    cases r1
    exact cat_tup0 p1 p2 ⟨.ref b, H, I, rfl, q0 rfl⟩
  · refine HT.cat_tup p1 p2 (fun z => hx (r1.nil_iff.mp z)) (fun z => ⟨.ref a, H, I, rfl, q1 hx (r2.nil_iff.mp z)⟩) (fun z => ?_) (by rw [← r1.length, ← r2.length]; exact hz)
    have := newT (Q := Q) I (r1.append r2) (by rw [List.length_append]; exact hz) (q2 hx (fun w => z (r2.nil_iff.mpr w)))
    exact this
/-- t[lo:hi] -/
def rSlN (K : PySem.W.Frag) : V → Option Int → Option Int → Hp → VK → Prop := fun x lo hi H Q => ∃ a xs, x = .ref a ∧ SqT K H a xs ∧
  (HT.sIx xs.length 0 lo = 0 ∧ HT.sIx xs.length xs.length hi = xs.length → Q (.ref a) H) ∧ (¬ (HT.sIx xs.length 0 lo = 0 ∧ HT.sIx xs.length xs.length hi = xs.length) → NewT H (cutV xs lo hi) Q)
theorem sl_tupN : SlR X (rSlN X.K) := by
  intro pins s σ H x v vl vu lo hi sl Q I rx hs pl pu h
  obtain ⟨a, xs, rfl, hx, q1, q2⟩ := h
  cases rx
  obtain ⟨its, r, ht, hz⟩ := I.tuple hx
  have hlen : its.toArray.size = xs.length := by rw [List.size_toArray]; exact r.length.symm
  refine ⟨"tuple", _, PyProof.Rows.slot_tuple_getitem.lookup, ht.typeIs, ?_⟩
  by_cases hw : HT.sIx xs.length 0 lo = 0 ∧ HT.sIx xs.length xs.length hi = xs.length
  · exact getItem_tuple_whole ht hs pl pu (by rw [hlen]; exact hw) ⟨.ref a, H, I, rfl, q1 hw⟩
  · refine HT.getItem_tuple_cut ht hs pl pu (by rw [hlen]; exact hw) ?_ (by rw [hlen]; exact hz)
    rw [hlen]
    have := newT (Q := Q) I ((r.drop (HT.sIx xs.length 0 lo)).take (HT.sIx xs.length xs.length hi - HT.sIx xs.length 0 lo)) (Nat.le_trans (cutV_length xs lo hi) hz) (q2 hw)
    exact this
/-- a method of a tuple -/
def tTM (K : PySem.W.Frag) (r : V → List V → Hp → VK → Prop) (to : TE) (t : TA) : TE := fun σ H Q => to σ H fun x H1 => (∃ a xs, x = .ref a ∧ TpN K H1 a xs) ∧ t σ H1 fun vs H2 => r x vs H2 Q
theorem pe_tm {name : Str} {id : String} {r : V → List V → Hp → VK → Prop} {o e : Expr} {es : List Expr} {to : TE} {t : TA} {apos cpos : Pos} (slot : Slot "tuple" name id) (hty : typeOf (.builtin id) = pure (.type "method_descriptor")) (hm : MtR X id r) (ho : PE X o to) (ha : PA X (e :: es) t)
    (hbase : attributeBase o name X.env (eval o X.env) = eval o X.env := by rfl)
    (hfew : ((backTo cpos (starEach (e :: es) X.env)).all (fun x => !x.1) && (backToKw cpos (keywordEach [] X.env)).all (fun x => x.1.isSome)
      && decide ((e :: es).length + ([] : List Keyword).length + (if ([] : List Keyword).isEmpty then 0 else 1) < 30)) = true := by rfl)
    (hline : (apos.endLine == cpos.line) = true := by rfl) (hs : starEach (e :: es) X.env = (false, eval e X.env) :: starEach es X.env := by rfl) (hplain : (backTo cpos (starEach es X.env)).any (·.1) = false := by rfl) :
    PE X (.Call (.Attribute o name apos) (e :: es) [] cpos) (tTM X.K r to t) := by
  refine ⟨fun pins s σ H Q I h => ?_⟩
  refine wpAny_Call_method_late hbase hfew hline rfl (thn (ho.run pins s σ H _ I h) fun v s1 ⟨x, H1, I1, r1, ty, q1⟩ => ?_)
  obtain ⟨a, xs, rfl, ht⟩ := ty
  cases r1
  have hty2 : s1.TypeIs (.ref a) "tuple" ∧ ∀ b, Value.ref a = .ref b → ∃ ob, s1.heap.get? b = some ob ∧ ob.dict = none := by
    obtain ⟨its, rv, ⟨ob0, g0, hc0, n0, hd0⟩, _⟩ := I1.tuple ht.sq
    refine ⟨⟨ob0, g0, hc0⟩, fun b e => ?_⟩
    cases e
    rcases ht with ⟨ob, hn, hq⟩ | ⟨ob, its', n, hl, hc, hdn, hd, hz, hv⟩
    · obtain ⟨g, _⟩ := I1.hok a _ hq
      exact ⟨ob, g, hn⟩
    · exact ⟨ob, I1.kIn _ _ hl, hdn⟩
  obtain ⟨h1, h2⟩ := hty2
  refine ⟨"tuple", id, PySem.F.plainAttrs_tuple, slot, hty, h1, h2, ?_⟩
  have hA := ha.run cpos pins s1 σ H1 _ I1 q1
  rw [hs] at hA ⊢
  refine Calls.callWith_builtin (by show (false || (backTo cpos (starEach es X.env)).any (·.1)) = false; rw [hplain] <;> rfl) (Calls.evalArgs_plain ?_)
  exact thn hA fun us s2 ⟨vs, H2, I2, r2, q2⟩ => hm pins s2 σ H2 (.ref a) vs (.ref a) us Q I2 rfl r2 q2
end
end Lm
namespace Lm
open PySem PySem.Spec PyProof.Rows L2
section
variable {X : Cx}
def rCountT (K : PySem.W.Frag) : V → List V → Hp → VK → Prop := fun x xs H Q => ∃ (p : Addr) (ns : List Int) (k : Int), x = .ref p ∧ xs = [.int k] ∧ SqT K H p (ns.map V.int) ∧ Q (.int (ns.count k : Nat)) H
theorem mt_tcount : MtR X "tuple.count" (rCountT X.K) := by
  intro pins s σ H x xs v us Q I rx rxs h
  obtain ⟨p, ns, k, rfl, rfl, hs, q⟩ := h
  cases rx
  obtain ⟨u, rfl, ru⟩ := rxs.one
  obtain ⟨t, rfl⟩ := ru
  obtain ⟨its, rv, ⟨⟨cls, dd, data, sl⟩, ho, hc, n, hd⟩, hlen⟩ := I.tuple hs
  simp only at hc hd
  subst hc hd
  have hi := ints_of_vals rv
  refine call_meets PySem.F.slot_tuple_count ⟨_, ho, rfl⟩ PySem.F.entry_tuple_count (PySem.F.args_tuple_count_2 _ _)
    (SeqAt.tuple_countAt p its.toArray n dd sl (.int k t) (eqk k)) ⟨ho, fun y hy => (eqk_gives hi y (by simpa using hy)).at _ _, ?_⟩
  have ec : its.toArray.toList.countP (eqk k) = ns.count k := eqk_count hi
  refine ⟨.int (ns.count k : Nat), H, I.tok _, ⟨s.toks, ?_⟩, q⟩
  show Value.int ((its.toArray.toList.countP (eqk k) : Nat) : Int) s.toks = Value.int ((ns.count k : Nat) : Int) s.toks
  rw [ec]
end
end Lm


namespace Lm
open PySem PySem.Spec PyProof.Rows L2
variable {c : Ct} {H H' H0 H1 H2 H3 : Hp} {O : List Addr} {σ : L2.St} {Γ : List (Option Rs)}

/-- what an expression gives: a value that stays, a new list, something to be read at once -/
inductive Kd | v | o | b
def Res (c : Ct) (O : List Addr) (H H2 : Hp) (v : V) (d : PyData) : Kd → Prop
  | .v => Bo c (mns H2 O) v d
  | .o => ∃ fp, Fo c H2 v d fp ∧ fp.Nodup ∧ ∀ a ∈ fp, H a = none
  | .b => Bo c H2 v d
theorem Res.bo {v : V} {d : PyData} {k : Kd} (e : Env c H0 O H σ Γ) (h : Res c O H H2 v d k) : Bo c H2 v d := by
  cases k with
  | v => exact Bo.same mns_same h
  | o =>
    obtain ⟨fp, f, nd, new⟩ := h
    exact f.bo fun a ha => okA.fresh e.jH (new a ha)
  | b => exact h
theorem Res.on {v : V} {d : PyData} {k : Kd} (e : Env c H0 O H σ Γ) (r1 : Rr c H H2) (r : Rr c H2 H3) (h : Res c O H H2 v d k) : Res c O H H3 v d k := by
  have e2 := e.on r1
  cases k with
  | v => exact Bo.mono e2.j (r.mns e2.j e2.okO) h
  | o =>
    obtain ⟨fp, f, nd, new⟩ := h
    exact ⟨fp, f.up (fun _ _ s => r.tup e2.jH s) (fun a ha o q => r.1 a o (okA.fresh e.jH (new a ha)) q), nd, new⟩
  | b => exact Bo.mono e2.jH r h
/-- fresh behind is fresh before -/
theorem Res.back {v : V} {d : PyData} {k : Kd} (e : Env c H0 O H σ Γ) (r1 : Rr c H H2) (h : Res c O H2 H3 v d k) : Res c O H H3 v d k := by
  cases k with
  | v => exact h
  | o =>
    obtain ⟨fp, f, nd, new⟩ := h
    exact ⟨fp, f, nd, fun a ha => r1.back e.jH (new a ha)⟩
  | b => exact h
theorem Bo.flatM {v : V} {d : PyData} (e : Env c H0 O H σ Γ) (r : Rr c H H2) (q : flatD d = true) (h : Bo c H2 v d) : Bo c (mns H2 O) v d :=
  h.flatTo (fun a xs s => sqT_mns (fun b hb => (e.on r).dm b hb) s) q

def Ev (c : Ct) (te : TE) (Γ : List (Option Rs)) (k : Kd) (d : PyData) : Prop :=
  ∀ H0 O H σ, Env c H0 O H σ Γ → ∀ Q : VK, (∀ v H2, Rr c H H2 → Res c O H H2 v d k → Q v H2) → te σ H Q
/-- .. one of several -/
def EvN (c : Ct) (te : TE) (Γ : List (Option Rs)) (k : Kd) (P : PyData → Prop) : Prop :=
  ∀ H0 O H σ, Env c H0 O H σ Γ → ∀ Q : VK, (∀ v d H2, P d → Rr c H H2 → Res c O H H2 v d k → Q v H2) → te σ H Q
def EvT (c : Ct) (tt : TT) (Γ : List (Option Rs)) (b : Bool) : Prop :=
  ∀ H0 O H σ, Env c H0 O H σ Γ → ∀ Q : Bool → Hp → Prop, (∀ H2, Rr c H H2 → Q b H2) → tt σ H Q
def EvTN (c : Ct) (tt : TT) (Γ : List (Option Rs)) : Prop :=
  ∀ H0 O H σ, Env c H0 O H σ Γ → ∀ Q : Bool → Hp → Prop, (∀ b H2, Rr c H H2 → Q b H2) → tt σ H Q
/-- arguments, to be read; (kv) each a value that stays -/
def EvA (c : Ct) (ta : TA) (Γ : List (Option Rs)) (kv : Bool) (ds : List PyData) : Prop :=
  ∀ H0 O H σ, Env c H0 O H σ Γ → ∀ Q : List V → Hp → Prop, (∀ vs H2, Rr c H H2 → BoAll c (if kv then mns H2 O else H2) vs ds → Q vs H2) → ta σ H Q
section
variable {te ta tb tx : TE} {tt tu : TT} {tr : TA} {k ka kb : Kd} {d x y z : PyData} {i j : Int} {a b : Bool} {kv : Bool} {ds : List PyData}
theorem Ev.n (h : Ev c te Γ k d) : EvN c te Γ k (fun x => x = d) := fun H0 O H σ e Q q => h H0 O H σ e Q fun v H2 r s => q v d H2 rfl r s
theorem EvN.det (h : EvN c te Γ k (fun x => x = d)) : Ev c te Γ k d := fun H0 O H σ e Q q => h H0 O H σ e Q fun v d H2 p r s => by subst p; exact q v H2 r s
theorem EvN.imp {P P' : PyData → Prop} (h : EvN c te Γ k P) (i : ∀ d, P d → P' d) : EvN c te Γ k P' := fun H0 O H σ e Q q => h H0 O H σ e Q fun v d H2 p => q v d H2 (i d p)
theorem Ev.to (h : Ev c te Γ k x) (e : x = y) : Ev c te Γ k y := e ▸ h
theorem EvT.to (h : EvT c tt Γ a) (e : a = b) : EvT c tt Γ b := e ▸ h
/-- flat data stay -/
theorem Ev.fl (h : Ev c te Γ k d) (f : flatD d = true) : Ev c te Γ .v d := fun H0 O H σ e Q q => h H0 O H σ e Q fun v H2 r s => q v H2 r (Bo.flatM e r f (Res.bo e s))
theorem Ev.fo (h : Ev c te Γ k d) (f : flatD d = true) : Ev c te Γ .o d := fun H0 O H σ e Q q => h H0 O H σ e Q fun v H2 r s => q v H2 r ⟨[], .leaf f (Res.bo e s), List.nodup_nil, fun _ h => nomatch h⟩
theorem EvN.fo {P : PyData → Prop} (h : EvN c te Γ k P) (f : ∀ d, P d → flatD d = true) : EvN c te Γ .o P := fun H0 O H σ e Q q => h H0 O H σ e Q fun v d H2 p r s => q v d H2 p r ⟨[], .leaf (f d p) (Res.bo e s), List.nodup_nil, fun _ h => nomatch h⟩
theorem EvN.fl {P : PyData → Prop} (h : EvN c te Γ k P) (f : ∀ d, P d → flatD d = true) : EvN c te Γ .v P := fun H0 O H σ e Q q => h H0 O H σ e Q fun v d H2 p r s => q v d H2 p r (Bo.flatM e r (f d p) (Res.bo e s))

/-! ### leaves -/
theorem d_int : Ev c (tC (.int i)) Γ .v (.int i) := fun H0 O H σ e Q q => q _ H Rr.rf (.int i)
theorem d_bl : Ev c (tC (.bl a)) Γ .v (.bool a) := fun H0 O H σ e Q q => q _ H Rr.rf (.bl a)
theorem d_str {s : Str} : Ev c (tC (.str s)) Γ .v (.str s) := fun H0 O H σ e Q q => q _ H Rr.rf (.str s)
theorem d_non : Ev c (tC .non) Γ .v .none := fun H0 O H σ e Q q => q _ H Rr.rf .non
theorem d_var {n : Nat} (h : Γ[n]? = some (some (.v d))) : Ev c (tVar n) Γ .v d := fun H0 O H σ e Q q => by
  obtain ⟨v, hv, b⟩ := e.slotV h
  exact ⟨v, hv, q v H Rr.rf b⟩
theorem d_varO {n : Nat} (h : Γ[n]? = some (some (.o d))) : Ev c (tVar n) Γ .b d := fun H0 O H σ e Q q => by
  obtain ⟨v, fp, hv, f, nd, sub⟩ := e.slotO h
  exact ⟨v, hv, q v H Rr.rf (f.bo fun a ha => e.okO a (sub a ha))⟩
/-! ### two operands -/
theorem d_bin {r : R2} (ha : Ev c ta Γ ka x) (hb : Ev c tb Γ kb y)
    (hr : ∀ H O v u (Q : VK), Bo c H v x → Bo c H u y → (∀ v' H2, Rr c H H2 → Bo c (mns H2 O) v' z → Q v' H2) → r v u H Q) : Ev c (tOp r ta tb) Γ .v z := fun H0 O H σ e Q q =>
  ha H0 O H σ e _ fun v H1 r1 s1 => hb H0 O H1 σ (e.on r1) _ fun u H2 r2 s2 =>
    hr H2 O v u Q (Res.bo e (Res.on e r1 r2 s1)) (Res.bo (e.on r1) s2) fun v' H3 r3 b => q v' H3 ((r1.tr r2).tr r3) b
theorem d_I0 {g : Int → Int → V} {w : V} (ha : Ev c ta Γ ka (.int i)) (hb : Ev c tb Γ kb (.int j)) (hw : g i j = w) (hz : ∀ H, Bo c H w z) : Ev c (tOp (rI0 g) ta tb) Γ .v z :=
  d_bin ha hb fun H O v u Q bv bu q => ⟨i, j, bv.int', bu.int', q _ H Rr.rf (hw ▸ hz _)⟩
theorem d_sub (ha : Ev c ta Γ ka (.int i)) (hb : Ev c tb Γ kb (.int j)) : Ev c (tOp (rI0 fun i j => .int (i - j)) ta tb) Γ .v (.int (i - j)) := d_I0 ha hb rfl fun _ => .int _
theorem d_lt (ha : Ev c ta Γ ka (.int i)) (hb : Ev c tb Γ kb (.int j)) : Ev c (tOp (rI0 fun i j => .bl (decide (i < j))) ta tb) Γ .v (.bool (decide (i < j))) := d_I0 ha hb rfl fun _ => .bl _
theorem d_le (ha : Ev c ta Γ ka (.int i)) (hb : Ev c tb Γ kb (.int j)) : Ev c (tOp (rI0 fun i j => .bl (decide (i ≤ j))) ta tb) Γ .v (.bool (decide (i ≤ j))) := d_I0 ha hb rfl fun _ => .bl _
theorem d_gt (ha : Ev c ta Γ ka (.int i)) (hb : Ev c tb Γ kb (.int j)) : Ev c (tOp (rI0 fun i j => .bl (decide (j < i))) ta tb) Γ .v (.bool (decide (j < i))) := d_I0 ha hb rfl fun _ => .bl _
theorem d_ge (ha : Ev c ta Γ ka (.int i)) (hb : Ev c tb Γ kb (.int j)) : Ev c (tOp (rI0 fun i j => .bl (decide (j ≤ i))) ta tb) Γ .v (.bool (decide (j ≤ i))) := d_I0 ha hb rfl fun _ => .bl _
/-- == and != of scalars -/
def scalD : PyData → Option V
  | .none => some .non
  | .bool b => some (.bl b)
  | .int i => some (.int i)
  | .str s => some (.str s)
  | _ => none
theorem Bo.scal {v w : V} (h : Bo c H v d) (e : scalD d = some w) : v = w := by
  cases h with
  | non => exact Option.some.inj e
  | bl _ => exact Option.some.inj e
  | int _ => exact Option.some.inj e
  | str _ => exact Option.some.inj e
  | lst _ _ _ => cases e
  | tup _ _ => cases e
theorem decI {i j : Int} : decide (V.int i = V.int j) = decide (i = j) := by
  by_cases h : i = j
  · subst h; simp
  · rw [decide_eq_false h, decide_eq_false (fun e => h (V.int.inj e))]
def isNoneD : PyData → Bool
  | .none => true
  | _ => false
theorem Bo.isN {v : V} (h : Bo c H v d) : decide (v = V.non) = isNoneD d := by
  cases h <;> simp [isNoneD]
/-- is None -/
theorem d_isN (ha : Ev c ta Γ ka x) : Ev c (tOp (fun x y H Q => y = .non ∧ Q (.bl (decide (x = .non))) H) ta (tC .non)) Γ .v (.bool (isNoneD x)) :=
  d_bin ha d_non fun H O v u Q bv bu q => ⟨bu.non', by rw [bv.isN]; exact q _ H Rr.rf (.bl _)⟩
theorem d_notN (ha : Ev c ta Γ ka x) : Ev c (tOp (fun x y H Q => y = .non ∧ Q (.bl (!decide (x = .non))) H) ta (tC .non)) Γ .v (.bool (!(isNoneD x))) :=
  d_bin ha d_non fun H O v u Q bv bu q => ⟨bu.non', by rw [bv.isN]; exact q _ H Rr.rf (.bl _)⟩
theorem inV_ints {i : Int} {ns : List Int} : inV (.int i) (ns.map V.int) = decide (i ∈ ns) := by
  induction ns with
  | nil => rfl
  | cons n ns ih =>
    have e : inV (.int i) ((n :: ns).map V.int) = (eqV (.int n) (.int i) || inV (.int i) (ns.map V.int)) := rfl
    rw [e, ih]
    show (decide (n = i) || decide (i ∈ ns)) = _
    by_cases h : n = i
    · subst h; simp
    · have h' : ¬ i = n := fun e => h e.symm
      simp [h, h']
theorem flatV_ints (ns : List Int) : (ns.map V.int).all flatV = true := by
  rw [List.all_map]
  exact List.all_eq_true.mpr fun _ _ => rfl
/-- in a tuple or list of ints -/
theorem d_inT {neg : Bool} {ns : List Int} (ha : Ev c ta Γ ka (.int i)) (hb : Ev c tb Γ kb (.tuple (ns.map .int))) : Ev c (tOp (rIn c.K neg) ta tb) Γ .v (.bool (if neg then !decide (i ∈ ns) else decide (i ∈ ns))) :=
  d_bin ha hb fun H O v u Q bv bu q => by
    obtain ⟨p, xs, rfl, s, al⟩ := bu.tup'
    have := al.ints
    subst this
    rw [bv.int']
    exact ⟨p, _, rfl, .inr s.sq, rfl, flatV_ints ns, by rw [inV_ints]; exact q _ H Rr.rf (.bl _)⟩
theorem d_inL {neg : Bool} {ns : List Int} (ha : Ev c ta Γ ka (.int i)) (hb : Ev c tb Γ kb (.list (ns.map .int))) : Ev c (tOp (rIn c.K neg) ta tb) Γ .v (.bool (if neg then !decide (i ∈ ns) else decide (i ∈ ns))) :=
  d_bin ha hb fun H O v u Q bv bu q => by
    obtain ⟨p, xs, rfl, _, s, al⟩ := bu.lst'
    have := al.ints
    subst this
    rw [bv.int']
    exact ⟨p, _, rfl, .inl s, rfl, flatV_ints ns, by rw [inV_ints]; exact q _ H Rr.rf (.bl _)⟩
/-- an item -/
theorem atI_bo {v : List V} (h : BoAll c H v ds) (e : atI ds i = some d) : ∃ x, atI v i = some x ∧ Bo c H x d := by
  unfold atI at e ⊢
  rw [h.len]
  cases q : ixN ds.length i with
  | none => rw [q] at e; cases e
  | some n =>
    rw [q] at e
    exact h.gets e
/-! ### truth -/
theorem d_notV (ha : Ev c ta Γ ka (.bool a)) : Ev c (tNotV ta) Γ .v (.bool (!a)) := fun H0 O H σ e Q q =>
  ha H0 O H σ e _ fun v H1 r1 s1 => ⟨a, (Res.bo e s1).bl', q _ H1 r1 (.bl _)⟩
theorem d_andV (ha : Ev c ta Γ ka (.bool a)) (hb : a = true → Ev c tb Γ .v (.bool b)) : Ev c (tAndV ta tb) Γ .v (.bool (a && b)) := fun H0 O H σ e Q q =>
  ha H0 O H σ e _ fun v H1 r1 s1 => ⟨a, (Res.bo e s1).bl', by
    cases a with
    | true =>
      refine iteT (hb rfl H0 O H1 σ (e.on r1) _ fun u H2 r2 s2 => ?_)
      rw [(Res.bo (e.on r1) s2).bl']
      exact q _ H2 (r1.tr r2) (.bl _)
    | false => exact iteF (q _ H1 r1 (.bl _))⟩
theorem t_test (h : Ev c te Γ k (.bool a)) : EvT c (tTest te) Γ a := fun H0 O H σ e Q q => h H0 O H σ e _ fun v H2 r s => ⟨a, (Res.bo e s).bl', q H2 r⟩
theorem t_B (h : Ev c te Γ k (.bool a)) : EvT c (tB te) Γ a := fun H0 O H σ e Q q => h H0 O H σ e _ fun v H2 r s => ⟨a, (Res.bo e s).bl', q H2 r⟩
theorem t_not (h : EvT c tt Γ a) : EvT c (tNot tt) Γ (!a) := fun H0 O H σ e Q q => h H0 O H σ e _ fun H2 r => q H2 r
theorem t_and (h : EvT c tt Γ a) (g : a = true → EvT c tu Γ b) : EvT c (tAnd tt tu) Γ (a && b) := fun H0 O H σ e Q q => h H0 O H σ e _ fun H2 r => by
  cases a with
  | true => exact iteT (g rfl H0 O H2 σ (e.on r) _ fun H3 r3 => q H3 (r.tr r3))
  | false => exact iteF (q H2 r)
theorem t_or (h : EvT c tt Γ a) (g : a = false → EvT c tu Γ b) : EvT c (tOr tt tu) Γ (a || b) := fun H0 O H σ e Q q => h H0 O H σ e _ fun H2 r => by
  cases a with
  | false => exact iteF (g rfl H0 O H2 σ (e.on r) _ fun H3 r3 => q H3 (r.tr r3))
  | true => exact iteT (q H2 r)
theorem t_yes : EvT c tYes Γ true := fun H0 O H σ e Q q => q H Rr.rf
theorem d_if (h : EvT c tt Γ a) (h1 : a = true → Ev c ta Γ k d) (h2 : a = false → Ev c tb Γ k d) : Ev c (tIf tt ta tb) Γ k d := fun H0 O H σ e Q q => h H0 O H σ e _ fun H1 r1 => by
  cases a with
  | true => exact iteT (h1 rfl H0 O H1 σ (e.on r1) _ fun v H2 r2 s => q v H2 (r1.tr r2) (s.back e r1))
  | false => exact iteF (h2 rfl H0 O H1 σ (e.on r1) _ fun v H2 r2 s => q v H2 (r1.tr r2) (s.back e r1))
/-! ### arguments -/
theorem a_nil : EvA c tNil Γ kv [] := fun H0 O H σ e Q q => q [] H Rr.rf .nil
theorem a_cons (h : Ev c te Γ k d) (hr : EvA c tr Γ false ds) : EvA c (tCons te tr) Γ false (d :: ds) := fun H0 O H σ e Q q =>
  h H0 O H σ e _ fun v H1 r1 s1 => hr H0 O H1 σ (e.on r1) _ fun vs H2 r2 s2 => q _ H2 (r1.tr r2) (.cons (Res.bo e (s1.on e r1 r2)) s2)
theorem a_consV (h : Ev c te Γ .v d) (hr : EvA c tr Γ true ds) : EvA c (tCons te tr) Γ true (d :: ds) := fun H0 O H σ e Q q =>
  h H0 O H σ e _ fun v H1 r1 s1 => hr H0 O H1 σ (e.on r1) _ fun vs H2 r2 s2 => q _ H2 (r1.tr r2) (.cons (s1.on e r1 r2) s2)
end
end Lm


namespace Lm
open PySem PySem.Spec PyProof.Rows L2
variable {c : Ct} {H H' H0 H1 H2 H3 : Hp} {O : List Addr} {σ : L2.St} {Γ Γ' : List (Option Rs)}

/-! ### what is walked -/
/-- an item: data, or a tuple made for the target alone -/
inductive Im where
  | d (x : PyData)
  | t (xs : List Im)
mutual
inductive Lo (c : Ct) (F : Hp) (fz : Bool) (H : Hp) : V → Im → Prop
  | leaf {v : V} {d : PyData} : (flatD d = true ∧ Bo c H v d) ∨ (fz = true ∧ Bo c F v d) → Lo c F fz H v (.d d)
  | tup {a : Addr} {xs : List V} {ds : List Im} : SqT c.K H a xs → LoAll c F fz H xs ds → Lo c F fz H (.ref a) (.t ds)
inductive LoAll (c : Ct) (F : Hp) (fz : Bool) (H : Hp) : List V → List Im → Prop
  | nil : LoAll c F fz H [] []
  | cons {v : V} {vs : List V} {d : Im} {ds : List Im} : Lo c F fz H v d → LoAll c F fz H vs ds → LoAll c F fz H (v :: vs) (d :: ds)
end
theorem LoAll.ofFlat {F : Hp} {fz : Bool} : ∀ {v : List V} {d : List PyData}, flatAll d = true → BoAll c H v d → LoAll c F fz H v (d.map Im.d)
  | _, _, _, .nil => .nil
  | _, _, q, .cons a b => by
    have q' : (flatD _ && flatAll _) = true := q
    rw [Bool.and_eq_true] at q'
    exact .cons (.leaf (.inl ⟨q'.1, a⟩)) (LoAll.ofFlat q'.2 b)
theorem LoAll.ofFz {F : Hp} : ∀ {v : List V} {d : List PyData}, BoAll c F v d → LoAll c F true H v (d.map Im.d)
  | _, _, .nil => .nil
  | _, _, .cons a b => .cons (.leaf (.inr ⟨rfl, a⟩)) (LoAll.ofFz b)
theorem LoAll.len {F : Hp} {fz : Bool} : ∀ {v : List V} {d : List Im}, LoAll c F fz H v d → v.length = d.length
  | _, _, .nil => rfl
  | _, _, .cons _ b => by simp [LoAll.len b]
/-- a tuple's parts -/
theorem Lo.parts {F : Hp} {fz : Bool} {v : V} {ds : List PyData} (j : Ji c F) (r : Rr c F H) (h : Lo c F fz H v (.d (.tuple ds))) : ∃ a xs, v = .ref a ∧ SqT c.K H a xs ∧ LoAll c F fz H xs (ds.map Im.d) := by
  cases h with
  | leaf h =>
    rcases h with ⟨q, b⟩ | ⟨q, b⟩
    · obtain ⟨a, xs, rfl, s, al⟩ := b.tup'
      exact ⟨a, xs, rfl, s.sq, .ofFlat (by simpa [flatD] using q) al⟩
    · obtain ⟨a, xs, rfl, s, al⟩ := b.tup'
      subst q
      exact ⟨a, xs, rfl, (r.tup j s).sq, .ofFz al⟩
def WD (c : Ct) (F : Hp) (fz : Bool) (J : It) (ds : List Im) : Prop :=
  Ji c F ∧ Walk J ds.length (fun H => Rr c F H) (fun i H x H' => Same H H' ∧ ∃ d, ds[i]? = some d ∧ Lo c F fz H' x d)
def EvI (c : Ct) (wi : TI) (Γ : List (Option Rs)) (fz : Bool) (ds : List Im) : Prop :=
  ∀ H0 O H σ, Env c H0 O H σ Γ → ∀ R : It → Hp → Prop, (∀ J H1, Rr c H H1 → WD c (if fz then mns H1 O else H1) fz J ds → R J H1) → wi σ H R
/-- a target takes an item -/
def EvG (c : Ct) (g : TG) (d : Im) (Γ Γ' : List (Option Rs)) (js : List Nat) : Prop :=
  ∀ H0 O H σ F fz x, Env c H0 O H σ Γ → Ji c F → Rr c F H → (fz = true → Rr c F (mns H O)) → Lo c F fz H x d → ∀ Q : L2.St → Hp → Prop,
    (∀ σ', Env c H0 O H σ' Γ' → (∀ vs, (∀ j ∈ js, j ∈ vs) → wipe σ' vs = wipe σ vs) → Q σ' H) → g x σ H Q
def EvGs (c : Ct) (g : TGs) (ds : List Im) (Γ Γ' : List (Option Rs)) (js : List Nat) : Prop :=
  ∀ H0 O H σ F fz xs, Env c H0 O H σ Γ → Ji c F → Rr c F H → (fz = true → Rr c F (mns H O)) → LoAll c F fz H xs ds → ∀ Q : L2.St → Hp → Prop,
    (∀ σ', Env c H0 O H σ' Γ' → (∀ vs, (∀ j ∈ js, j ∈ vs) → wipe σ' vs = wipe σ vs) → Q σ' H) → g xs σ H Q
theorem wipe_set {x : Option V} {j : Nat} {σ : L2.St} : ∀ {vs : List Nat}, j ∈ vs → wipe (σ.set j x) vs = wipe σ vs
  | [], h => by simp at h
  | v :: vs, h => by
    unfold wipe
    by_cases hj : j ∈ vs
    · rw [wipe_set hj]
    · have e : j = v := by simpa [hj] using h
      subst e
      have : ∀ (us : List Nat) (σ : L2.St), (wipe (σ.set j x) us).set j none = (wipe σ us).set j none := by
        intro us
        induction us with
        | nil => intro σ; simp [wipe]
        | cons u us ih =>
          intro σ
          show ((wipe (σ.set j x) us).set u none).set j none = ((wipe σ us).set u none).set j none
          by_cases q : u = j
          · subst q; simpa using ih σ
          · rw [List.set_comm _ _ q, ih σ, List.set_comm _ _ (fun z => q z.symm)]
      exact this vs σ
theorem wipe_wipe {σ : L2.St} : ∀ {vs us : List Nat}, (∀ v ∈ vs, v ∈ us) → wipe (wipe σ vs) us = wipe σ us
  | [], us, h => rfl
  | v :: vs, us, h => by
    show wipe ((wipe σ vs).set v none) us = wipe σ us
    rw [wipe_set (h v (by simp)), wipe_wipe fun w hw => h w (by simp [hw])]
def wipeG (Γ : List (Option Rs)) : List Nat → List (Option Rs)
  | [] => Γ
  | v :: vs => (wipeG Γ vs).set v none
theorem Env.wipe (e : Env c H0 O H σ Γ) : ∀ vs : List Nat, Env c H0 O H (L2.wipe σ vs) (wipeG Γ vs)
  | [] => e
  | v :: vs => (Env.wipe e vs).setN
theorem g_name {j : Nat} {d : PyData} : EvG c (gName j) (.d d) Γ (Γ.set j (some (.v d))) [j] := fun H0 O H σ F fz x e jF rF rM h Q q => by
  have b : Bo c (mns H O) x d := by
    cases h with
    | leaf h =>
      rcases h with ⟨f, b⟩ | ⟨f, b⟩
      · exact b.flatTo (fun a xs s => sqT_mns (fun b hb => e.dm b hb) s) f
      · exact b.mono jF (rM f)
  exact q _ (e.setV b) fun vs hv => wipe_set (hv j (by simp))
theorem g_nil : EvGs c gNil [] Γ Γ [] := fun H0 O H σ F fz xs e jF rF rM h Q q => by
  cases h
  exact ⟨rfl, q σ e fun _ _ => rfl⟩
theorem g_cons {g : TG} {gs : TGs} {d : Im} {ds : List Im} {Γ1 Γ2 : List (Option Rs)} {js ks : List Nat} (h : EvG c g d Γ Γ1 js) (hs : EvGs c gs ds Γ1 Γ2 ks) : EvGs c (gCons g gs) (d :: ds) Γ Γ2 (js ++ ks) := fun H0 O H σ F fz xs e jF rF rM l Q q => by
  cases l with
  | cons a b =>
    exact ⟨_, _, rfl, h H0 O H σ F fz _ e jF rF rM a _ fun σ1 e1 w1 => hs H0 O H σ1 F fz _ e1 jF rF rM b _ fun σ2 e2 w2 => q σ2 e2 fun vs hv =>
      (w2 vs fun j hj => hv j (by simp [hj])).trans (w1 vs fun j hj => hv j (by simp [hj]))⟩
theorem g_tup {n : Nat} {gs : TGs} {ds : List Im} {js : List Nat} (hn : ds.length = n) (hs : EvGs c gs ds Γ Γ' js) : EvG c (gTup c.K n gs) (.t ds) Γ Γ' js := fun H0 O H σ F fz x e jF rF rM h Q q => by
  cases h with
  | tup s al => exact ⟨_, _, rfl, s, al.len.trans hn, hs H0 O H σ F fz _ e jF rF rM al Q q⟩
theorem g_tupD {n : Nat} {gs : TGs} {ds : List PyData} {js : List Nat} (hn : ds.length = n) (hs : EvGs c gs (ds.map Im.d) Γ Γ' js) : EvG c (gTup c.K n gs) (.d (.tuple ds)) Γ Γ' js := fun H0 O H σ F fz x e jF rF rM h Q q => by
  obtain ⟨a, xs, rfl, s, al⟩ := h.parts jF rF
  exact ⟨_, _, rfl, s, al.len.trans (by simpa using hn), hs H0 O H σ F fz _ e jF rF rM al Q q⟩
end Lm


namespace Lm
open PySem PySem.Spec PyProof.Rows L2
variable {c : Ct} {H H' H0 H1 H2 H3 : Hp} {O : List Addr} {σ : L2.St} {Γ Γ' : List (Option Rs)}
variable {te ta tb tx tl : TE} {tt tu : TT} {tr : TA} {k ka kb : Kd} {d x y z : PyData} {i j : Int} {a b : Bool} {kv fz : Bool} {ds es : List PyData}

/-! ### what is walked: lists, tuples, ranges -/
theorem sizeOk {n : Nat} (h : n ≤ 1000000) : n ≤ sizeLine := Nat.le_trans h (by decide)
theorem map_get? {α : Type} {f : PyData → α} {i : Nat} {d : PyData} (h : ds[i]? = some d) : (ds.map f)[i]? = some (f d) := by simp [h]
/-- the frozen part -/
theorem Res.frozen {v : V} (e : Env c H0 O H σ Γ) (r : Rr c H H2) (h : Res c O H H2 v d k) (hk : k ≠ .b) : Bo c (mns H2 O) v d := by
  cases k with
  | v => exact h
  | o =>
    obtain ⟨fp, f, nd, new⟩ := h
    have e2 := e.on r
    have no : ∀ a ∈ fp, a ∉ O := fun a ha hO => by
      obtain ⟨xs, q, _⟩ := e.dm a hO
      rw [new a ha] at q
      cases q
    exact (f.up (fun a xs s => sqT_mns (fun b hb => e2.dm b hb) s) fun a ha o q => by rw [mns_out (no a ha)]; exact q).bo fun a ha => okA.fresh e.jH (new a ha)
  | b => exact absurd rfl hk
theorem i_core {J : It} {xs : List V} {F : Hp} (jF : Ji c F) (hw : Walk J xs.length (fun H => Rr c F H) (YAt xs)) (hb : BoAll c F xs ds) (hf : fz = true ∨ flatAll ds = true) : WD c F fz J (ds.map Im.d) := by
  refine ⟨jF, ?_⟩
  have hl : xs.length = (ds.map Im.d).length := by rw [hb.len]; simp
  rw [hl] at hw
  refine hw.mono (fun _ h => h) fun i H x H' hi g y => ?_
  obtain ⟨rfl, hx⟩ := y
  obtain ⟨d, hd, bd⟩ := hb.get hx
  refine ⟨Same.refl _, .d d, map_get? hd, .leaf ?_⟩
  rcases hf with hf | hf
  · exact .inr ⟨hf, bd⟩
  · refine .inl ⟨?_, bd.mono jF g⟩
    have : ∀ (l : List PyData), flatAll l = true → ∀ d ∈ l, flatD d = true := by
      intro l
      induction l with
      | nil => intro _ _ h; simp at h
      | cons a l ih =>
        intro q d hd
        have q' : (flatD a && flatAll l) = true := q
        rw [Bool.and_eq_true] at q'
        rcases List.mem_cons.mp hd with w | w
        · rw [w]; exact q'.1
        · exact ih q'.2 d w
    exact this ds hf d (List.mem_of_getElem? hd)
theorem i_list (h : Ev c tl Γ k (.list ds)) (hk : k ≠ .b) : EvI c (iList c.K tl) Γ true (ds.map Im.d) := fun H0 O H σ e R q =>
  h H0 O H σ e _ fun v H1 r s => by
    obtain ⟨p, xs, rfl, kp, sl, al⟩ := (Res.frozen e r s hk).lst'
    exact ⟨p, rfl, ⟨xs, mns_same.seq sl⟩, q _ H1 r (i_core (e.on r).j (walk_list.mono (fun H h => h.lst kp sl) fun _ _ _ _ _ _ y => y) al (.inl rfl))⟩
theorem i_tup (h : Ev c tl Γ k (.tuple ds)) (hk : k ≠ .b) : EvI c (iTup c.K tl) Γ true (ds.map Im.d) := fun H0 O H σ e R q =>
  h H0 O H σ e _ fun v H1 r s => by
    obtain ⟨p, xs, rfl, sl, al⟩ := (Res.frozen e r s hk).tup'
    exact ⟨p, rfl, ⟨xs, (sqT_same mns_same sl).sq⟩, q _ H1 r (i_core (e.on r).j (walk_tup.mono (fun H h => (h.tup (e.on r).j sl).sq) fun _ _ _ _ _ _ y => y) al (.inl rfl))⟩
/-- the upI from lo on, n of them -/
def upI (lo : Int) (n : Nat) : List Int := (List.range n).map fun (i : Nat) => lo + (i : Int)
theorem i_range {F : Hp} (jF : Ji c F) {lo : Int} {n : Nat} : WD c F fz (Itr lo n) ((upI lo n).map fun i => Im.d (.int i)) := by
  refine ⟨jF, ?_⟩
  have hl : ((upI lo n).map fun i => Im.d (.int i)).length = n := by simp [upI]
  rw [hl]
  refine walk_range.mono (fun _ _ => trivial) fun i H x H' hi g y => ?_
  obtain ⟨rfl, rfl⟩ := y
  exact ⟨Same.refl _, .d (.int (lo + i)), by simp [upI, hi], .leaf (.inl ⟨rfl, .int _⟩)⟩
theorem i_rng1 {n : Int} (h : EvA c tr Γ kv [.int n]) (hn : n ≤ 1000000) (hn' : -1000000 ≤ n) : EvI c (iRng1 tr) Γ true ((upI 0 n.toNat).map fun i => Im.d (.int i)) := fun H0 O H σ e R q =>
  h H0 O H σ e _ fun vs H1 r s => by
    cases s with
    | cons b bs =>
      cases bs
      have := b.int'
      subst this
      exact ⟨n, rfl, by omega, by omega, q _ H1 r (i_range (e.on r).j)⟩
theorem i_rng2 {m n : Int} (h : EvA c tr Γ kv [.int m, .int n]) (hn : n ≤ 1000000) (hn' : -1000000 ≤ n) (hm : m ≤ 1000000) (hm' : -1000000 ≤ m) : EvI c (iRng2 tr) Γ true ((upI m (n - m).toNat).map fun i => Im.d (.int i)) := fun H0 O H σ e R q =>
  h H0 O H σ e _ fun vs H1 r s => by
    cases s with
    | cons b bs =>
      cases bs with
      | cons b' bs =>
        cases bs
        have := b.int'
        subst this
        have := b'.int'
        subst this
        exact ⟨m, n, rfl, ⟨by omega, by omega, by omega, by omega⟩, q _ H1 r (i_range (e.on r).j)⟩

/-! ### comprehensions -/
theorem flatAll_one {d : PyData} {ds : List PyData} (h : flatAll ds = true) (m : d ∈ ds) : flatD d = true := by
  induction ds with
  | nil => simp at m
  | cons a l ih =>
    have q' : (flatD a && flatAll l) = true := h
    rw [Bool.and_eq_true] at q'
    rcases List.mem_cons.mp m with w | w
    · rw [w]; exact q'.1
    · exact ih q'.2 w
theorem ifFz {F : Hp} {H1 : Hp} {O : List Addr} (e : Env c H0 O H σ Γ) (r1 : Rr c H H1) (r : Rr c H1 H2) : Rr c (if fz then mns H1 O else H1) H2 ∧ (fz = true → Rr c (if fz then mns H1 O else H1) (mns H2 O)) := by
  cases fz with
  | true => exact ⟨(Rr.same mns_same).tr r, fun _ => r.mns (e.on r1).j e.okO⟩
  | false => exact ⟨r, fun h => nomatch h⟩
theorem n_lc {wi : TI} {g : TG} {vs : List Nat} {items : List Im} (M : Nat → List PyData → Prop) (hi : EvI c wi Γ fz items) (hl : items.length ≤ 1000000) (h0 : M 0 [])
    (hb : ∀ (n : Nat) (a : Im) (acc : List PyData), items[n]? = some a → M n acc → ∃ Γ' js, EvG c g a (wipeG Γ vs) Γ' js ∧ (∀ j ∈ js, j ∈ vs) ∧
      ∃ (b : Bool) (P : PyData → Prop), EvT c tt Γ' b ∧ (b = true → EvN c te Γ' .o P ∧ ∀ d, P d → M (n + 1) (acc ++ [d])) ∧ (b = false → M (n + 1) acc)) :
    EvN c (tLc wi g tt te vs) Γ .o (fun d => ∃ acc, d = .list acc ∧ M items.length acc) := fun H0 O H σ e Q q =>
  hi H0 O H σ e _ fun J H1 r1 w D hD => by
    obtain ⟨jF, w⟩ := w
    refine lc_it w (fun n H' => Rr c H1 H' ∧ ∃ acc ds fp, H' D = some (.lst acc) ∧ FoAll c H' acc ds fp ∧ fp.Nodup ∧ (∀ a ∈ fp, H1 a = none) ∧ D ∉ fp ∧ ds.length ≤ n ∧ M n ds) ?_ ?_ ?_ ?_
    · exact ⟨Rr.same fun b o z => by rw [upd_ne (ne_of_none z hD)]; exact z, [], [], [], upd_same, .nil, List.nodup_nil, (fun _ h => nomatch h), (fun h => nomatch h), Nat.le_refl _, h0⟩
    · intro n H' _ p
      exact (ifFz (F := H) e r1 p.1).1
    · rintro n x H' H'' hn ⟨p1, acc, ds, fp, p2, p3, p4, p5, p6, p7, p8⟩ ⟨sm, im, him, lo⟩
      have e2 : Env c H0 O H'' σ Γ := e.on ((r1.tr p1).tr (Rr.same sm))
      have fzz := ifFz (fz := fz) (F := H) e r1 (p1.tr (Rr.same sm))
      obtain ⟨Γ', js, hg, hjs, b, P, ht, hy, hno⟩ := hb n im ds him p8
      refine hg H0 O H'' _ _ fz x (e2.wipe vs) jF fzz.1 fzz.2 lo _ fun σ2 e3 hw => ⟨(hw vs hjs).trans (wipe_wipe fun _ h => h), ht H0 O H'' σ2 e3 _ fun H3 r3 => ?_⟩
      have p3' : FoAll c H'' acc ds fp := p3.up (fun _ _ s => sqT_same sm s) fun a _ o z => sm a o z
      have okf : ∀ a ∈ fp, okA c a := fun a ha => okA.fresh (e.on r1).jH (p5 a ha)
      have okD : okA c D := okA.fresh (e.on r1).jH hD
      have f3 : FoAll c H3 acc ds fp := p3'.up (fun _ _ s => r3.tup e2.jH s) fun a ha o z => r3.1 a o (okf a ha) z
      have D3 : H3 D = some (.lst acc) := r3.1 D _ okD (sm _ _ p2)
      have r13 : Rr c H1 H3 := (p1.tr (Rr.same sm)).tr r3
      cases b with
      | true =>
        refine iteT ?_
        obtain ⟨hyN, hyM⟩ := hy rfl
        refine hyN H0 O H3 σ2 (e3.on r3) _ fun v d H4 pd r4 s4 => ?_
        obtain ⟨fq, f4, nq, newq⟩ := s4
        have e3' := e3.on r3
        have D4 : H4 D = some (.lst acc) := r4.1 D _ okD D3
        have f3' : FoAll c H4 acc ds fp := f3.up (fun _ _ s => r4.tup e3'.jH s) fun a ha o z => r4.1 a o (okf a ha) z
        have Dq : D ∉ fq := fun z => by rw [newq D z] at D3; cases D3
        have all : FoAll c H4 (acc ++ [v]) (ds ++ [d]) (fp ++ (fq ++ [])) := f3'.app (.cons f4 .nil)
        rw [List.append_nil] at all
        have lacc : acc.length = ds.length := (f3'.bo okf).len
        have hle : ds.length ≤ 1000000 := by omega
        have nodq : ∀ a ∈ fp, a ∉ fq := fun a ha hq => by
          obtain ⟨xs, z⟩ := f3.isL a ha
          rw [newq a hq] at z; cases z
        refine ⟨acc, D4, by rw [lacc, sizeLine_eq]; omega, ?_, acc ++ [v], ds ++ [d], fp ++ fq, upd_same, ?_, ?_, ?_, ?_, by simp; omega, hyM d pd⟩
        · refine ⟨fun a o ok z => ?_, fun jj => ?_⟩
          · rw [upd_ne (ne_of_none z hD)]; exact (r13.tr r4).1 a o ok z
          · intro st l eq
            obtain ⟨ns, x, k, g1, g2, g3, g4⟩ := (r13.tr r4).2 jj st l eq
            have d1 : st ≠ D := fun z => by
              obtain ⟨ns', x', k', g1', _⟩ := jj st l eq
              rw [z, hD] at g1'; cases g1'
            have d2 : l ≠ D := fun z => by
              obtain ⟨ns', x', k', _, g2', _⟩ := jj st l eq
              rw [z, hD] at g2'; cases g2'
            exact ⟨ns, x, k, by rw [upd_ne d1]; exact g1, by rw [upd_ne d2]; exact g2, g3, g4⟩
        · refine all.up (fun _ _ s => sqT_upd D4 s) fun a ha o z => ?_
          have : a ≠ D := fun w => by
            subst w
            rcases List.mem_append.mp ha with u | u
            · exact p6 u
            · exact Dq u
          rw [upd_ne this]; exact z
        · rw [List.nodup_append]
          exact ⟨p4, nq, fun a ha b hb z => by subst z; exact nodq a ha hb⟩
        · intro a ha
          rcases List.mem_append.mp ha with u | u
          · exact p5 a u
          · exact r13.back (e.on r1).jH (newq a u)
        · intro z
          rcases List.mem_append.mp z with u | u
          · exact p6 u
          · exact Dq u
      | false =>
        exact iteF ⟨r13, acc, ds, fp, D3, f3, p4, p5, p6, by omega, hno rfl⟩
    · rintro H' ⟨p1, acc, ds, fp, p2, p3, p4, p5, p6, p7, p8⟩
      refine q (.ref D) (.list ds) H' ⟨ds, rfl, p8⟩ (r1.tr p1) ⟨D :: fp, .lst p2 p3, ?_, fun a ha => ?_⟩
      · exact List.nodup_cons.mpr ⟨p6, p4⟩
      · rcases List.mem_cons.mp ha with w | w
        · rw [w]; exact r1.back e.jH hD
        · exact r1.back e.jH (p5 a w)
theorem d_lc {α : Type} {wi : TI} {g : TG} {vs : List Nat} {l : List α} {en : α → Im} (p : α → Bool) (m : α → PyData) (hi : EvI c wi Γ fz (l.map en)) (hl : l.length ≤ 1000000)
    (hb : ∀ a ∈ l, ∃ Γ' js, EvG c g (en a) (wipeG Γ vs) Γ' js ∧ (∀ j ∈ js, j ∈ vs) ∧ EvT c tt Γ' (p a) ∧ (p a = true → Ev c te Γ' .o (m a))) :
    Ev c (tLc wi g tt te vs) Γ .o (.list ((l.filter p).map m)) := by
  refine ((n_lc (fun n acc => acc = ((l.take n).filter p).map m) hi (by simpa using hl) rfl ?_).imp ?_).det
  · intro n a acc hn hacc
    rw [List.getElem?_map] at hn
    cases ha : l[n]? with
    | none => rw [ha] at hn; cases hn
    | some a0 =>
      rw [ha] at hn
      have : en a0 = a := Option.some.inj hn
      subst this
      have tk : l.take (n + 1) = l.take n ++ [a0] := by
        rw [List.take_add_one, ha]; rfl
      obtain ⟨Γ', js, h1, h2, h3, h4⟩ := hb a0 (List.mem_of_getElem? ha)
      refine ⟨Γ', js, h1, h2, p a0, fun d => d = m a0, h3, fun hp => ⟨(h4 hp).n, fun d hd => ?_⟩, fun hp => ?_⟩
      · rw [hacc, tk, hd]; simp [hp]
      · rw [hacc, tk]; simp [hp]
  · rintro d ⟨acc, rfl, h⟩
    have : (l.map en).length = l.length := by simp
    rw [this, List.take_length] at h
    rw [h]
/-- without a test -/
theorem d_lcA {α : Type} {wi : TI} {g : TG} {vs : List Nat} {l : List α} {en : α → Im} (m : α → PyData) (hi : EvI c wi Γ fz (l.map en)) (hl : l.length ≤ 1000000)
    (hb : ∀ a ∈ l, ∃ Γ' js, EvG c g (en a) (wipeG Γ vs) Γ' js ∧ (∀ j ∈ js, j ∈ vs) ∧ Ev c te Γ' .o (m a)) :
    Ev c (tLc wi g tYes te vs) Γ .o (.list (l.map m)) := by
  have := d_lc (te := te) (tt := tYes) (g := g) (vs := vs) (fun _ => true) m hi hl fun a ha => by
    obtain ⟨Γ', js, h1, h2, h3⟩ := hb a ha
    exact ⟨Γ', js, h1, h2, t_yes, fun _ => h3⟩
  have e : l.filter (fun _ => true) = l := List.filter_eq_self.mpr fun _ _ => rfl
  rwa [e] at this
end Lm


namespace Lm
open PySem PySem.Spec PyProof.Rows L2
variable {c : Ct} {H H' H0 H1 H2 H3 : Hp} {O : List Addr} {σ : L2.St} {Γ Γ' Γ1 : List (Option Rs)}
variable {te ta tb tx tl : TE} {tt tu : TT} {tr : TA} {k ka kb : Kd} {d x y z : PyData} {i j : Int} {a b : Bool} {kv fz : Bool} {ds es : List PyData}

/-! ### how a statement ends -/
inductive Out where
  | nx (Γ : List (Option Rs))
  | rt (k : Kd) (d : PyData)
  | bk (Γ : List (Option Rs))
  | ct (Γ : List (Option Rs))
def Rt (c : Ct) (H0 H : Hp) (v : V) (d : PyData) : Kd → Prop
  | .v => flatD d = true ∧ Bo c H v d
  | .o => ∃ fp, Fo c H v d fp ∧ fp.Nodup ∧ ∀ a ∈ fp, H0 a = none
  | .b => (∃ x, c.so = some x) ∧ Bo c H v d
def Sat (c : Ct) (H0 : Hp) (D : Ends) : Out → Prop
  | .nx Γ => ∀ O H σ, Env c H0 O H σ Γ → D.nx σ H
  | .rt k d => ∀ v H, Rr c H0 H → Rt c H0 H v d k → D.rt v H
  | .bk Γ => ∀ O H σ, Env c H0 O H σ Γ → D.bk σ H
  | .ct Γ => ∀ O H σ, Env c H0 O H σ Γ → D.ct σ H
def Sd (c : Ct) (t : TS) (Γ : List (Option Rs)) (P : Out → Prop) : Prop :=
  ∀ H0 O H σ D, Env c H0 O H σ Γ → (∀ o, P o → Sat c H0 D o) → t D σ H
section
variable {t u w : TS} {P P1 : Out → Prop} {n : Nat}
theorem Env.back0 (e : Env c H0 O H σ Γ) {a : Addr} (h : mns H O a = none) : H0 a = none := by
  cases q : H0 a with
  | none => rfl
  | some o =>
    have k : okA c a := fun st l z w => by
      obtain ⟨ns, x, k, g1, _⟩ := e.j st l z
      rw [← w, h] at g1
      cases g1
    have := e.r0.1 a o k q
    rw [h] at this
    cases this
theorem s_next (h : P (.nx Γ)) : Sd c tNext Γ P := fun H0 O H σ D e s => s _ h O H σ e
theorem s_cont (h : P (.ct Γ)) : Sd c tCont Γ P := fun H0 O H σ D e s => s _ h O H σ e
theorem s_seq (h : Sd c t Γ P1) (hn : ∀ Γ1, P1 (.nx Γ1) → Sd c u Γ1 P) (hr : ∀ k d, P1 (.rt k d) → P (.rt k d)) (hb : ∀ Γ1, P1 (.bk Γ1) → P (.bk Γ1)) (hc : ∀ Γ1, P1 (.ct Γ1) → P (.ct Γ1)) : Sd c (tSeq t u) Γ P := fun H0 O H σ D e s =>
  h H0 O H σ _ e fun o po => match o with
    | .nx Γ1 => fun O1 H1 σ1 e1 => hn Γ1 po H0 O1 H1 σ1 D e1 s
    | .rt k d => fun v H1 r q => s _ (hr k d po) v H1 r q
    | .bk Γ1 => fun O1 H1 σ1 e1 => s _ (hb Γ1 po) O1 H1 σ1 e1
    | .ct Γ1 => fun O1 H1 σ1 e1 => s _ (hc Γ1 po) O1 H1 σ1 e1
theorem s_seq1 (h : Sd c t Γ (fun o => o = .nx Γ1)) (hn : Sd c u Γ1 P) : Sd c (tSeq t u) Γ P :=
  s_seq h (fun _ e => by cases e; exact hn) (fun _ _ e => nomatch e) (fun _ e => nomatch e) (fun _ e => nomatch e)
theorem Sd.imp (h : Sd c t Γ P1) (i : ∀ o, P1 o → P o) : Sd c t Γ P := fun H0 O H σ D e s => h H0 O H σ D e fun o po => s o (i o po)
/-- another description of the slots -/
theorem Sd.pre (h : Sd c t Γ1 P) (i : ∀ H0 O H σ, Env c H0 O H σ Γ → ∃ O', Env c H0 O' H σ Γ1) : Sd c t Γ P := fun H0 O H σ D e s => by
  obtain ⟨O', e'⟩ := i H0 O H σ e
  exact h H0 O' H σ D e' s
theorem s_freeze (h : Γ[n]? = some (some (.o d))) (hs : Sd c t (Γ.set n (some (.v d))) P) : Sd c t Γ P :=
  hs.pre fun H0 O H σ e => let ⟨O', e', _⟩ := e.freeze h; ⟨O', e'⟩
/-- what an expression gave is stored: to be returned -/
theorem Rt.of {v : V} (e : Env c H0 O H σ Γ) (r : Rr c H H2) (h : Res c O H H2 v d k) (hk : k = .o ∨ (k = .v ∧ flatD d = true)) : Rt c H0 H2 v d k := by
  rcases hk with rfl | ⟨rfl, f⟩
  · obtain ⟨fp, q, nd, new⟩ := h
    refine ⟨fp, q, nd, fun a ha => e.back0 ?_⟩
    have : a ∉ O := fun z => by
      obtain ⟨xs, w, _⟩ := e.dm a z
      rw [new a ha] at w; cases w
    rw [mns_out this]; exact new a ha
  · exact ⟨f, Bo.same mns_same h⟩
theorem s_ret (h : Ev c te Γ k d) (hk : k = .o ∨ (k = .v ∧ flatD d = true)) (p : P (.rt k d)) : Sd c (tRet te) Γ P := fun H0 O H σ D e s =>
  h H0 O H σ e _ fun v H2 r q => s _ p v H2 (e.rH.tr r) (Rt.of e r q hk)
/-- a list of one's own is returned -/
theorem s_retO (h : Γ[n]? = some (some (.o d))) (p : P (.rt .o d)) : Sd c (tRet (tVar n)) Γ P := fun H0 O H σ D e s => by
  obtain ⟨v, fp, hv, f, nd, sub⟩ := e.slotO h
  exact ⟨v, hv, s _ p v H e.rH ⟨fp, f, nd, fun a ha => e.fr a (sub a ha)⟩⟩
theorem s_asg (h : Ev c te Γ .v d) (p : P (.nx (Γ.set n (some (.v d))))) : Sd c (tAsg te (gName n)) Γ P := fun H0 O H σ D e s =>
  h H0 O H σ e _ fun v H2 r q => s _ p O H2 _ ((e.on r).setV q)
theorem s_asgO (h : Ev c te Γ .o d) (p : P (.nx (Γ.set n (some (.o d))))) : Sd c (tAsg te (gName n)) Γ P := fun H0 O H σ D e s =>
  h H0 O H σ e _ fun v H2 r ⟨fp, f, nd, new⟩ => s _ p _ H2 _ (e.setO r f nd new)
theorem q_asg (h : Ev c te Γ .v d) (p : Sd c u (Γ.set n (some (.v d))) P) : Sd c (tSeq (tAsg te (gName n)) u) Γ P := s_seq1 (s_asg h rfl) p
theorem q_asgO (h : Ev c te Γ .o d) (p : Sd c u (Γ.set n (some (.o d))) P) : Sd c (tSeq (tAsg te (gName n)) u) Γ P := s_seq1 (s_asgO h rfl) p
theorem q_asgN (Pd : PyData → Prop) (h : EvN c te Γ .v Pd) (p : ∀ d, Pd d → Sd c u (Γ.set n (some (.v d))) P) : Sd c (tSeq (tAsg te (gName n)) u) Γ P := fun H0 O H σ D e s =>
  h H0 O H σ e _ fun v d H2 pd r q => p d pd H0 O H2 _ D ((e.on r).setV q) s
theorem q_drop (h : Ev c te Γ k d) (p : Sd c u Γ P) : Sd c (tSeq (tDrop te) u) Γ P := fun H0 O H σ D e s =>
  h H0 O H σ e _ fun v H2 r q => p H0 O H2 σ D (e.on r) s
theorem s_drop (h : Ev c te Γ k d) (p : P (.nx Γ)) : Sd c (tDrop te) Γ P := fun H0 O H σ D e s =>
  h H0 O H σ e _ fun v H2 r q => s _ p O H2 σ (e.on r)
theorem s_if (h : EvT c tt Γ a) (h1 : a = true → Sd c t Γ P) (h2 : a = false → Sd c u Γ P) : Sd c (tIfS tt t u) Γ P := fun H0 O H σ D e s =>
  h H0 O H σ e _ fun H2 r => by
    cases a with
    | true => exact iteT (h1 rfl H0 O H2 σ D (e.on r) s)
    | false => exact iteF (h2 rfl H0 O H2 σ D (e.on r) s)
theorem s_ifN (h : EvTN c tt Γ) (h1 : Sd c t Γ P) (h2 : Sd c u Γ P) : Sd c (tIfS tt t u) Γ P := fun H0 O H σ D e s =>
  h H0 O H σ e _ fun b H2 r => by
    cases b with
    | true => exact iteT (h1 H0 O H2 σ D (e.on r) s)
    | false => exact iteF (h2 H0 O H2 σ D (e.on r) s)
/-- if, then the rest -/
theorem q_if (h : EvT c tt Γ a) (h1 : a = true → Sd c (tSeq t w) Γ P) (h2 : a = false → Sd c (tSeq u w) Γ P) : Sd c (tSeq (tIfS tt t u) w) Γ P := fun H0 O H σ D e s =>
  h H0 O H σ e _ fun H2 r => by
    cases a with
    | true => exact iteT (h1 rfl H0 O H2 σ D (e.on r) s)
    | false => exact iteF (h2 rfl H0 O H2 σ D (e.on r) s)
theorem q_next (h : Sd c u Γ P) : Sd c (tSeq tNext u) Γ P := fun H0 O H σ D e s => h H0 O H σ D e s
theorem q_ret (h : Ev c te Γ k d) (hk : k = .o ∨ (k = .v ∧ flatD d = true)) (p : P (.rt k d)) : Sd c (tSeq (tRet te) u) Γ P := fun H0 O H σ D e s =>
  h H0 O H σ e _ fun v H2 r q => s _ p v H2 (e.rH.tr r) (Rt.of e r q hk)
/-- if that surely is not so (or is) -/
theorem q_no (h : EvT c tt Γ false) (h2 : Sd c w Γ P) : Sd c (tSeq (tIfS tt t tNext) w) Γ P := q_if h (fun e => nomatch e) (fun _ => q_next h2)
theorem s_no (h : EvT c tt Γ false) (h2 : Sd c u Γ P) : Sd c (tIfS tt t u) Γ P := s_if h (fun e => nomatch e) (fun _ => h2)
/-- xs.append(e) -/
theorem s_app (hx : Γ[n]? = some (some (.o (.list ds)))) (h : Ev c te Γ k d) (hf : flatD d = true) (hl : ds.length < 1000000) (p : P (.nx (Γ.set n (some (.o (.list (ds ++ [d]))))))) : Sd c (tDrop (tBM c.K "list" rAppend (tVar n) (tCons te tNil))) Γ P := fun H0 O H σ D e s => by
  obtain ⟨q, xs, f, hq, hp, fa, qf, qO, _⟩ := e.write (es := ds ++ [d]) hx
  refine ⟨.ref q, hq, .inl ⟨rfl, xs, .inl (.inl hp)⟩, h H0 O H σ e _ fun v H2 r rs => ?_⟩
  have e2 := e.on r
  obtain ⟨q', xs', f', hq', hp', fa', qf', qO', wr⟩ := e2.write (es := ds ++ [d]) hx
  have : q' = q := by rw [hq] at hq'; cases hq'; rfl
  subst this
  have bo : Bo c H2 v d := Res.bo e rs
  have lx : xs'.length = ds.length := (fa'.bo fun a ha => e.okO a (qO' a ha)).len
  refine ⟨q', xs', v, rfl, rfl, hp', by rw [lx, sizeLine_eq]; omega, s _ p O _ σ (wr (xs' ++ [v]) ?_)⟩
  have := fa'.app (.cons (.leaf hf bo) .nil : FoAll c H2 [v] [d] ([] ++ []))
  rw [List.append_nil, List.append_nil] at this
  exact this.up (fun _ _ s => sqT_upd hp' s) fun a ha o z => by
    have : a ≠ q' := fun w => qf' (w ▸ ha)
    rw [upd_ne this]; exact z
theorem FoAll.set0 : ∀ {v : List V} {d : List PyData} {m : Nat} {x : V} {e : PyData}, FoAll c H v d [] → flatD e = true → Bo c H x e → FoAll c H (v.set m x) (d.set m e) [] := by
  intro v
  induction v with
  | nil =>
    intro d m x e h q b
    cases h
    exact .nil
  | cons v0 v ih =>
    intro d m x e h q b
    generalize hz : ([] : List Addr) = z at h
    cases h with
    | cons a r =>
      obtain ⟨h1, h2⟩ := List.append_eq_nil_iff.mp hz.symm
      subst h1
      subst h2
      cases m with
      | zero => exact .cons (f := []) (fs := []) (.leaf q b) r
      | succ m => exact .cons (f := []) (fs := []) a (ih r q b)
/-! ### for -/
theorem s_for {wi : TI} {g : TG} {tb : TS} {items : List Im} (hi : EvI c wi Γ true items) (I : Nat → List (Option Rs) → Prop) (h0 : I 0 Γ)
    (hs : ∀ n a Γ1, items[n]? = some a → I n Γ1 → ∃ Γ2 js, EvG c g a Γ1 Γ2 js ∧
      Sd c tb Γ2 (fun o => (∃ Γ3, (o = .nx Γ3 ∨ o = .ct Γ3) ∧ I (n + 1) Γ3) ∨ (∃ Γ3, o = .bk Γ3 ∧ P (.nx Γ3)) ∨ ∃ k d, o = .rt k d ∧ P o))
    (hd : ∀ Γ1, I items.length Γ1 → P (.nx Γ1)) : Sd c (tFor wi g tb) Γ P := fun H0 O H σ D e s =>
  hi H0 O H σ e _ fun J H1 r1 w => by
    obtain ⟨jF, w⟩ := w
    have e1 := e.on r1
    refine for_it w (fun n σ' H' => ∃ O' Γ', I n Γ' ∧ Env c (mns H1 O) O' H' σ' Γ') ⟨O, Γ, h0, e1.base⟩ ?_ ?_ ?_
    · rintro n σ' H' _ ⟨O', Γ', _, e'⟩
      exact e'.rH
    · rintro n x σ' H' H'' hn ⟨O', Γ', hI, e'⟩ ⟨sm, im, him, lo⟩
      have e2 := e'.on (Rr.same sm)
      obtain ⟨Γ2, js, hg, hb⟩ := hs n im Γ' him hI
      refine hg _ _ _ _ _ true x e2 jF e2.rH (fun _ => e2.r0) lo _ fun σ2 e3 _ => hb _ _ _ _ _ e3 fun o po => ?_
      rcases po with ⟨Γ3, ho, h3⟩ | ⟨Γ3, ho, h3⟩ | ⟨k, d, ho, h3⟩
      · rcases ho with rfl | rfl
        · exact fun O4 H4 σ4 e4 => ⟨O4, Γ3, h3, e4⟩
        · exact fun O4 H4 σ4 e4 => ⟨O4, Γ3, h3, e4⟩
      · subst ho
        exact fun O4 H4 σ4 e4 => s _ h3 O4 H4 σ4 (e1.fromB e4)
      · subst ho
        intro v H4 r4 rt
        refine s _ h3 v H4 ((e.r0.tr (r1.mns e.j e.okO)).tr r4) ?_
        cases k with
        | v => exact rt
        | o =>
          obtain ⟨fp, q, nd, new⟩ := rt
          exact ⟨fp, q, nd, fun a ha => e1.back0 (new a ha)⟩
        | b => exact rt
    · rintro σ' H' ⟨O', Γ', hI, e'⟩
      exact s _ (hd Γ' hI) O' H' σ' (e1.fromB e')
theorem q_for {wi : TI} {g : TG} {tb : TS} {items : List Im} (hi : EvI c wi Γ true items) (I : Nat → List (Option Rs) → Prop) (h0 : I 0 Γ)
    (hs : ∀ n a Γ1, items[n]? = some a → I n Γ1 → ∃ Γ2 js, EvG c g a Γ1 Γ2 js ∧
      Sd c tb Γ2 (fun o => (∃ Γ3, (o = .nx Γ3 ∨ o = .ct Γ3) ∧ I (n + 1) Γ3) ∨ (∃ Γ3, o = .bk Γ3 ∧ Sd c u Γ3 P) ∨ ∃ k d, o = .rt k d ∧ P o))
    (hd : ∀ Γ1, I items.length Γ1 → Sd c u Γ1 P) : Sd c (tSeq (tFor wi g tb) u) Γ P :=
  s_seq (P1 := fun o => match o with | .nx Γ3 => Sd c u Γ3 P | .rt k d => P (.rt k d) | _ => False)
    (s_for hi I h0 (fun n a Γ1 h1 h2 => by
      obtain ⟨Γ2, js, hg, hb⟩ := hs n a Γ1 h1 h2
      refine ⟨Γ2, js, hg, hb.imp fun o po => ?_⟩
      rcases po with w | ⟨Γ3, ho, h3⟩ | ⟨k, d, ho, h3⟩
      · exact .inl w
      · exact .inr (.inl ⟨Γ3, ho, h3⟩)
      · subst ho; exact .inr (.inr ⟨k, d, rfl, h3⟩)) hd) (fun _ h => h) (fun _ _ h => h) (fun _ h => h.elim) (fun _ h => h.elim)
end

/-! ### new tuples and lists; built-ins -/
theorem newTk {xs : List V} {Q : VK} (h : ∀ p H2, H p = none → Same H H2 → TpN c.K H2 p xs → Q (.ref p) H2) : NewT H xs Q := fun p o ho hp =>
  h p _ hp (fun b u z => by rw [upd_ne (ne_of_none z hp)]; exact z) (.inl ⟨o, ho, upd_same⟩)
theorem BoAll.vm {O : List Addr} {vs : List V} (h : BoAll c (if true = true then mns H O else H) vs ds) : BoAll c (mns H O) vs ds := h
theorem new_notO (e : Env c H0 O H σ Γ) {p : Addr} (h : H p = none) : p ∉ O := fun z => by
  obtain ⟨xs, w, _⟩ := e.dm p z
  rw [h] at w; cases w
theorem tpN_mns (e : Env c H0 O H σ Γ) (r : Rr c H H2) {p : Addr} {xs : List V} (h : TpN c.K H2 p xs) : TpN c.K (mns H2 O) p xs := sqT_mns (fun b hb => (e.on r).dm b hb) h
theorem d_tup (h : EvA c tr Γ true ds) (hl : ds.length ≤ 1000000) : Ev c (tTupN tr) Γ .v (.tuple ds) := fun H0 O H σ e Q q =>
  h H0 O H σ e _ fun vs H1 r s => by
    have s' := BoAll.vm s
    refine ⟨by rw [s'.len]; exact sizeOk hl, newTk (c := c) fun p H2 hp sm tp => q _ H2 (r.tr (Rr.same sm)) ?_⟩
    have r2 : Rr c H H2 := r.tr (Rr.same sm)
    exact .tup (tpN_mns e r2 tp) (s'.mono (e.on r).j ((Rr.same sm : Rr c H1 H2).mns (e.on r).j e.okO))
theorem d_lst (h : EvA c tr Γ kv ds) (hf : flatAll ds = true) (hl : ds.length ≤ 1000000) : Ev c (tLst tr) Γ .o (.list ds) := fun H0 O H σ e Q q =>
  h H0 O H σ e _ fun vs H1 r s => by
    have s' : BoAll c H1 vs ds := by
      cases kv with
      | true => exact BoAll.same mns_same (BoAll.vm s)
      | false => exact s
    refine ⟨by rw [s'.len]; exact sizeOk hl, fun p hp => q _ _ (r.tr (Rr.same fun b u z => by rw [upd_ne (ne_of_none z hp)]; exact z)) ?_⟩
    have sm : Same H1 (upd H1 p (.lst vs)) := fun b u z => by rw [upd_ne (ne_of_none z hp)]; exact z
    exact ⟨[p], .lst upd_same (FoAll.leaves hf (s'.same sm)), by simp, fun a ha => by
      have : a = p := by simpa using ha
      rw [this]; exact r.back e.jH hp⟩
/-- a call by values -/
theorem d_cb {r : List V → Hp → VK → Prop} (h : EvA c tr Γ false ds) (hr : ∀ H O vs (Q : VK), BoAll c H vs ds → (∀ v H2, Rr c H H2 → Bo c (mns H2 O) v z → Q v H2) → r vs H Q) : Ev c (tCB r tr) Γ .v z := fun H0 O H σ e Q q =>
  h H0 O H σ e _ fun vs H1 r1 s => hr H1 O vs Q s fun v H2 r2 b => q v H2 (r1.tr r2) b
theorem BoAll.one {v : List V} (h : BoAll c H v [d]) : ∃ x, v = [x] ∧ Bo c H x d := by
  cases h with
  | cons a b => cases b; exact ⟨_, rfl, a⟩
theorem BoAll.two {v : List V} (h : BoAll c H v [d, x]) : ∃ y z, v = [y, z] ∧ Bo c H y d ∧ Bo c H z x := by
  cases h with
  | cons a b =>
    cases b with
    | cons a' b => cases b; exact ⟨_, _, rfl, a, a'⟩
def rLen (K : PySem.W.Frag) : List V → Hp → VK → Prop := fun xs H Q => ∃ p ys, xs = [.ref p] ∧ (SqL K H p ys ∨ SqT K H p ys) ∧ Q (.int ys.length) H
theorem d_lenT (h : Ev c te Γ k (.tuple ds)) : Ev c (tCB (rLen c.K) (tCons te tNil)) Γ .v (.int ds.length) :=
  d_cb (a_cons h a_nil) fun H O vs Q s q => by
    obtain ⟨x, rfl, b⟩ := s.one
    obtain ⟨p, xs, rfl, s, al⟩ := b.tup'
    exact ⟨p, xs, rfl, .inr s.sq, by rw [al.len]; exact q _ H Rr.rf (.int _)⟩
theorem d_lenL (h : Ev c te Γ k (.list ds)) : Ev c (tCB (rLen c.K) (tCons te tNil)) Γ .v (.int ds.length) :=
  d_cb (a_cons h a_nil) fun H O vs Q s q => by
    obtain ⟨x, rfl, b⟩ := s.one
    obtain ⟨p, xs, rfl, _, s, al⟩ := b.lst'
    exact ⟨p, xs, rfl, .inl s, by rw [al.len]; exact q _ H Rr.rf (.int _)⟩
theorem d_all {bs : List Bool} (h : Ev c te Γ k (.list (bs.map .bool))) : Ev c (tCB (rAll c.K) (tCons te tNil)) Γ .v (.bool (bs.all id)) :=
  d_cb (a_cons h a_nil) fun H O vs Q s q => by
    obtain ⟨x, rfl, b⟩ := s.one
    obtain ⟨p, xs, rfl, _, s, al⟩ := b.lst'
    have := al.bools
    subst this
    exact ⟨p, bs, rfl, s, q _ H Rr.rf (.bl _)⟩
theorem n_tuple {P : List PyData → Prop} (h : EvN c te Γ k (fun d => ∃ ds, d = .list ds ∧ P ds)) (hf : ∀ ds, P ds → flatAll ds = true) : EvN c (tCB (rTuple c.K) (tCons te tNil)) Γ .v (fun d => ∃ ds, d = .tuple ds ∧ P ds) := fun H0 O H σ e Q q =>
  h H0 O H σ e _ fun v d H1 ⟨ds, hd, pd⟩ r s => by
    subst hd
    obtain ⟨p, xs, rfl, _, sl, al⟩ := (Res.bo e s).lst'
    refine ⟨p, xs, rfl, .inl ⟨sl, newTk (c := c) fun p' H2 hp sm tp => q _ (.tuple ds) H2 ⟨ds, rfl, pd⟩ (r.tr (Rr.same sm)) ?_⟩⟩
    have r2 : Rr c H H2 := r.tr (Rr.same sm)
    exact .tup (tpN_mns e r2 tp) ((al.same sm).flatTo (fun a xs s => sqT_mns (fun b hb => (e.on r2).dm b hb) s) (hf ds pd))
theorem d_tuple (h : Ev c te Γ k (.list ds)) (hf : flatAll ds = true) : Ev c (tCB (rTuple c.K) (tCons te tNil)) Γ .v (.tuple ds) :=
  ((n_tuple (P := fun es => es = ds) (h.n.imp fun d hd => ⟨ds, hd, rfl⟩) fun es he => he ▸ hf).imp fun d ⟨es, h1, h2⟩ => by rw [h1, h2]).det
end Lm


namespace Lm
open PySem PySem.Spec PyProof.Rows L2
variable {c : Ct} {H H' H0 H1 H2 H3 : Hp} {O : List Addr} {σ : L2.St} {Γ Γ' Γ1 : List (Option Rs)}
variable {te ta tb tx tl : TE} {tt tu : TT} {tr : TA} {k ka kb : Kd} {d x y z : PyData} {i j : Int} {a b : Bool} {kv fz : Bool} {ds es : List PyData}

/-! ### promises of defs over data -/
abbrev pc (K : PySem.W.Frag) : Ct := ⟨K, none⟩
/-- args, how the answer is held, the answer -/
abbrev Pre := List PyData → Kd → PyData → Prop
def spD (K : PySem.W.Frag) (pre : Pre) : Sp := fun vs H Q _ => ∃ ds k d, BoAll (pc K) H vs ds ∧ pre ds k d ∧ ∀ v H', Same H H' → Rt (pc K) H H' v d k → Q v H'
/-- with the stream first: one of several answers -/
abbrev PreS := List PyData → Kd → (PyData → Prop) → Prop
abbrev sc (K : PySem.W.Frag) (st l : Addr) : Ct := ⟨K, some (st, l)⟩
def spS (K : PySem.W.Frag) (pre : PreS) : Sp := fun vs H Q _ => ∃ st l vs' ds k P, vs = .ref st :: vs' ∧ Str1 K st l H ∧ BoAll (sc K st l) H vs' ds ∧ pre ds k P ∧ ∀ v d H', P d → Rr (sc K st l) H H' → Rt (sc K st l) H H' v d k → Q v H'
mutual
theorem Fo.ct {c' : Ct} (hk : c'.K = c.K) : ∀ {v : V} {d : PyData} {fp : List Addr}, Fo c H v d fp → Fo c' H v d fp
  | _, _, _, .leaf q b => .leaf q (b.flat hk q)
  | _, _, _, .lst e a => .lst e (FoAll.ct hk a)
theorem FoAll.ct {c' : Ct} (hk : c'.K = c.K) : ∀ {v : List V} {d : List PyData} {fp : List Addr}, FoAll c H v d fp → FoAll c' H v d fp
  | _, _, _, .nil => .nil
  | _, _, _, .cons a b => .cons (Fo.ct hk a) (FoAll.ct hk b)
end
theorem Rt.res {v : V} (e : Env c H0 O H σ Γ) (r : Rr c H H2) (h : Rt c H H2 v d k) : Res c O H H2 v d k := by
  cases k with
  | v => exact Bo.flatM e r h.1 h.2
  | o => exact h
  | b => exact h.2
theorem d_call {pre : Pre} {E : XK} (h : EvA c tr Γ false ds) (hp : pre ds k d) : Ev c (tCall (spD c.K pre) [] E tr) Γ k d := fun H0 O H σ e Q q =>
  h H0 O H σ e _ fun vs H1 r s => by
    refine ⟨ds, k, d, by rw [List.append_nil]; exact s.pure, hp, fun v H2 sm rt => q v H2 (r.tr (Rr.same sm)) ?_⟩
    have r2 : Rr c H H2 := r.tr (Rr.same sm)
    cases k with
    | v => exact (Bo.flat (c := pc c.K) (c' := c) rfl rt.1 rt.2).flatM e r2 rt.1
    | o =>
      obtain ⟨fp, f, nd, new⟩ := rt
      exact ⟨fp, Fo.ct (c := pc c.K) (c' := c) rfl f, nd, fun a ha => r.back e.jH (new a ha)⟩
    | b => obtain ⟨⟨_, e⟩, _⟩ := rt; exact nomatch e
theorem n_call {pre : PreS} {E : XK} {st l : Addr} {P : PyData → Prop} {n : Nat} (hc : c.so = some (st, l)) (hst : Γ[n]? = some (some (.r (.ref st)))) (h : EvA c tr Γ false ds) (hp : pre ds k P) :
    EvN c (tCall (spS c.K pre) [] E (tCons (tVar n) tr)) Γ k P := fun H0 O H σ e Q q => by
  have hcc : c = sc c.K st l := by cases c; cases hc; rfl
  refine ⟨_, e.slotR hst, h H0 O H σ e _ fun vs H1 r s => ?_⟩
  refine ⟨st, l, vs, ds, k, P, by simp, (e.on r).jH st l hc, by rw [← hcc]; exact s, hp, fun v d H2 pd r2 rt => ?_⟩
  rw [← hcc] at r2 rt
  refine q v d H2 pd (r.tr r2) ?_
  exact (Rt.res (e.on r) r2 rt).back e r
/-! ### a def's body -/
def argsG (ds : List PyData) (n : Nat) : List (Option Rs) := ds.map (fun d => some (.v d)) ++ List.replicate (n - ds.length) none
theorem reps_none {O : List Addr} : ∀ n : Nat, Reps c O H (List.replicate n none) (List.replicate n none) []
  | 0 => .nil
  | n + 1 => .cons (f := []) (fs := []) rfl (reps_none n)
theorem reps_args {O : List Addr} {rest : L2.St} {restG : List (Option Rs)} (hr : Reps c O H rest restG []) : ∀ {vs : List V} {ds : List PyData}, BoAll c (mns H O) vs ds → Reps c O H (vs.map some ++ rest) (ds.map (fun d => some (.v d)) ++ restG) []
  | _, _, .nil => hr
  | _, _, .cons a b => .cons (f := []) (fs := []) ⟨rfl, _, rfl, a⟩ (reps_args hr b)
theorem env_args {N : List Str} {vs : List V} (j : Ji c H) (h : BoAll c H vs ds) : Env c H [] H (start N vs) (argsG ds N.length) := by
  refine ⟨Rr.same (by rw [mns_nil]; exact Same.refl _), by rw [mns_nil]; exact j, (fun _ h => nomatch h), (fun _ h => nomatch h), [], ?_, List.nodup_nil, (fun _ h => nomatch h)⟩
  unfold L2.start argsG
  rw [h.len]
  exact reps_args (reps_none _) (by rw [mns_nil]; exact h)
theorem Ji.pc {K : PySem.W.Frag} {H : Hp} : Ji (pc K) H := fun _ _ e => nomatch e
/-- the body of a def without the stream -/
theorem run_pure {K : PySem.W.Frag} {N : List Str} {t : TS} {pre : Pre} {vs : List V} {Q : VK} {E : XK} (hs : ∀ ds k d, pre ds k d → Sd (pc K) t (argsG ds N.length) (fun o => o = .rt k d ∨ (k = .v ∧ d = .none ∧ ∃ Γ, o = .nx Γ)))
    (h : spD K pre vs H Q E) : t { nx := fun _ H' => Q .non H', rt := Q } (start N vs) H := by
  obtain ⟨ds, k, d, hb, hp, hq⟩ := h
  have sm : ∀ H', Rr (Lm.pc K) H H' → Same H H' := fun H' r a o z => r.1 a o (fun _ _ e => nomatch e) z
  refine hs ds k d hp H [] H (start N vs) _ (env_args Ji.pc hb) fun o po => ?_
  rcases po with rfl | ⟨rfl, rfl, Γ, rfl⟩
  · exact fun v H' r rt => hq v H' (sm H' r) rt
  · intro O H' σ e
    exact hq .non H' (sm H' (e.r0.tr (Rr.same mns_same))) ⟨rfl, .non⟩
theorem spD_len {K : PySem.W.Frag} {pre : Pre} {vs : List V} {Q : VK} {E : XK} {n : Nat} (h : spD K pre vs H Q E) (hl : ∀ ds k d, pre ds k d → ds.length = n) : vs.length = n := by
  obtain ⟨ds, k, d, hb, hp, _⟩ := h
  rw [hb.len, hl ds k d hp]
/-- the body of a def with the stream first -/
theorem run_str {K : PySem.W.Frag} {N : List Str} {t : TS} {pre : PreS} {vs : List V} {Q : VK} {E : XK}
    (hs : ∀ st l ds k P, pre ds k P → Sd (sc K st l) t (some (.r (.ref st)) :: (ds.map (fun d => some (.v d)) ++ List.replicate (N.length - (ds.length + 1)) none)) (fun o => ∃ d, o = .rt k d ∧ P d))
    (h : spS K pre vs H Q E) : t { nx := fun _ H' => Q .non H', rt := Q } (start N vs) H := by
  obtain ⟨st, l, vs', ds, k, P, rfl, hst, hb, hp, hq⟩ := h
  have j : Ji (sc K st l) H := fun st' l' e => by cases e; exact hst
  refine hs st l ds k P hp H [] H (start N (.ref st :: vs')) _ ⟨Rr.same (by rw [mns_nil]; exact Same.refl _), by rw [mns_nil]; exact j, (fun _ h => nomatch h), (fun _ h => nomatch h), [], ?_, List.nodup_nil, (fun _ h => nomatch h)⟩ fun o po => ?_
  · unfold L2.start
    have : (V.ref st :: vs').length = ds.length + 1 := by simp [hb.len]
    rw [this]
    exact .cons (f := []) (fs := []) ⟨rfl, rfl⟩ (reps_args (reps_none _) (by rw [mns_nil]; exact hb))
  · obtain ⟨d, rfl, pd⟩ := po
    exact fun v H' r rt => hq v d H' pd r rt
theorem spS_len {K : PySem.W.Frag} {pre : PreS} {vs : List V} {Q : VK} {E : XK} {n : Nat} (h : spS K pre vs H Q E) (hl : ∀ ds k P, pre ds k P → ds.length + 1 = n) : vs.length = n := by
  obtain ⟨st, l, vs', ds, k, P, rfl, _, hb, hp, _⟩ := h
  simp [hb.len, hl ds k P hp]
/-- what a caller knows of a def: where it stands, what it promises -/
structure Cal (P : Program) (w : World) (K : PySem.W.Frag) (mg : Str → Option Value) (base : Heap) (CX : CXT) (k : Nat) (x : Str) (ps : List Str) (sp : Sp) : Prop where
  ok : ∃ f fd, FnOk P w K mg base CX k f fd ps sp ∧ mg x = some (.ref f) ∧ PySem.W.keepIn K (.ref f) = true ∧ Binds K fd ps []
section
variable {X : Cx}
theorem pe_cal {CX : CXT} {E : XK} {k : Nat} {x : Str} {ps : List Str} {sp : Sp} {p pos : Pos} {e : Expr} {es : List Expr} {t : TA} (F : Cal X.prog X.w X.K X.mg X.base CX k x ps sp) (hr : Room k X.A) (hg : Gl X x) (hx : Passes CX X E) (ha : PA X (e :: es) t)
    (hdb : (x == ("__debug__" : Str)) = false := by decide) (he : starEach (e :: es) X.env = (false, eval e X.env) :: starEach es X.env := by rfl) (hpl : (backTo pos (starEach es X.env)).any (·.1) = false := by rfl) :
    PE X (.Call (.Name x p) (e :: es) [] pos) (tCall sp [] E t) := by
  obtain ⟨f, fd, F1, F2, F3, F4⟩ := F.ok
  exact pe_call F1 hr hg F2 F3 F4 .nil hx ha hdb he hpl
end
/-! ### methods of tuples -/
theorem d_count {ns : List Int} (h : Ev c ta Γ ka (.tuple (ns.map .int))) (hb : Ev c tb Γ kb (.int i)) : Ev c (tTM c.K (rCountT c.K) ta (tCons tb tNil)) Γ .v (.int (ns.count i : Nat)) := fun H0 O H σ e Q q =>
  h H0 O H σ e _ fun v H1 r1 s1 => by
    obtain ⟨p, xs, rfl, s, al⟩ := (Res.bo e s1).tup'
    refine ⟨⟨p, xs, rfl, s⟩, hb H0 O H1 σ (e.on r1) _ fun u H2 r2 s2 => ?_⟩
    obtain ⟨p', xs', e', s', al'⟩ := (Res.bo e (Res.on e r1 r2 s1)).tup'
    cases e'
    have := al'.ints
    subst this
    exact ⟨p, ns, i, rfl, by rw [(Res.bo (e.on r1) s2).int'], s'.sq, q _ H2 (r1.tr r2) (.int _)⟩
end Lm


namespace Lm
open PySem PySem.Spec PyProof.Rows L2
/-! ### enumerate(tuple) -/
/-- the turns of enumerate over the tuple at a: its items as they stand, each in a pair -/
def IteT (K : PySem.W.Frag) (a : Addr) : It where
  go := fun i H => ∃ (xs : List V) (x : V), SqT K H a xs ∧ xs[i]? = some x
  yld := fun i H v H' => ∃ T x, v = .ref T ∧ H T = none ∧ H' = upd H T (.tup [.int (i : Nat), x]) ∧ ∀ xs, SqT K H a xs → xs[i]? = some x
  stop := fun i H => ∃ xs : List V, SqT K H a xs ∧ xs.length = i
theorem turnEnumT {P : Program} {w : World} {K : PySem.W.Frag} {elts : List Expr} {kk : Nat} {tpos : Pos} (a e it : Addr) :
    Turn P w K (.Tuple elts kk tpos) (IteT K a) [e, it] e fun i h => (∃ old, IsEnum h e it ((i : Nat) : Int) old) ∧ h.IsTupleIter it a i ∧ e ≠ it ∧ a ≠ it where
  mem := List.mem_cons_self
  obj := by
    rintro i h ⟨⟨old, he⟩, ⟨o, ho, hc, hd⟩, _⟩ b hb
    rcases List.mem_cons.mp hb with rfl | hb
    · exact ⟨_, he, fun v q => nomatch q⟩
    · cases List.mem_singleton.mp hb
      exact ⟨o, ho, fun v q => by rw [hd] at q; cases q⟩
  keep := by
    rintro i h h' ⟨⟨old, he⟩, hi, hne⟩ k
    exact ⟨⟨old, k e List.mem_cons_self _ he⟩, hi.at fun o q => k it (List.mem_cons_of_mem _ List.mem_cons_self) o q, hne⟩
  item := by
    intro X hP hw hK hc i pins s σ H E I hf ⟨⟨old, he⟩, hit, hne, hai⟩ ⟨xs, x, hq, hx⟩
    subst hP hw hK
    obtain ⟨its, rv, p, hz⟩ := I.tuple hq
    obtain ⟨u, hu, ru⟩ := rv.get hx
    have hlt : i < its.toArray.size := by rw [List.size_toArray]; exact (List.getElem?_eq_some_iff.mp hu).1
    have hel := Heap.lt_size he
    have hil : it < s.heap.objs.size := let ⟨_, q, _⟩ := hit; Heap.lt_size q
    have hea : e ≠ a := fun z => by
      have h0 := (hf e List.mem_cons_self).1
      obtain ⟨ob, g, gc, n, gd⟩ := p
      rw [← z, he] at g
      cases g
      exact absurd gc (by simp)
    have DT := Draws.tuple (prog := X.prog) (w := X.w) (A := X.A.in1) (show X.A.in1.handled = none from I.ok.hd hc) it a hai its.toArray
    refine PySem.wpAny_pyNext_enum_itemD DT he ⟨hit, p⟩ hlt hne (by simpa [hne] using hea) fun x' h' tk hx' ho hs' hT hsz hk => ?_
    have ex : x' = u := by
      have : its[i]? = some x' := by simpa using hx'
      rw [hu] at this
      exact (Option.some.inj this).symm
    subst ex
    refine ⟨_, rfl, wpAny_letOwnedTupleGo_enum (s := { s with heap := h', toks := tk + 1 }) ho fun h'' he' sb => ?_⟩
    have hT2 := (sb.2 _ (Nat.ne_of_gt hel)).trans hT
    have new : ObjOk X.prog X.w (upd H s.heap.objs.size (.tup [.int (i : Nat), x])) h'' s.heap.objs.size (.tup [.int (i : Nat), x]) :=
      ⟨(by decide : 2 ≤ sizeLine), [.int i tk, x'], .cons ⟨_, rfl⟩ (.cons ru .nil), _, hT2, rfl, _, rfl⟩
    have I1 := I.turnedNew (t' := tk + 1) (ch := [e, it]) (fun b ob hb q => (sb.2 b fun z => hb (z ▸ List.mem_cons_self)).trans (hk b ob (fun z => hb (z ▸ List.mem_cons_self)) (fun z => hb (z ▸ List.mem_cons_of_mem _ List.mem_cons_self)) q)) hf (Nat.le_refl _) new
    refine ⟨.ref s.heap.objs.size, _, I1, rfl, ⟨_, x, rfl, I.hok.fresh (Nat.le_refl _), rfl, fun ys hy => by rw [I.tuple_inj hy hq]; exact hx⟩, ⟨⟨x', ?_⟩, hs'.1.at fun o q => (sb.2 it hne.symm).trans q, hne, hai⟩, fun b hb => ?_⟩
    · have e1 : ((i + 1 : Nat) : Int) = (i : Int) + 1 := by omega
      rw [e1]; exact he'
    · have hb' : b < s.heap.objs.size := by
        rcases List.mem_cons.mp hb with rfl | hb
        · exact hel
        · cases List.mem_singleton.mp hb; exact hil
      rw [upd_ne (Nat.ne_of_lt hb')]
      exact (hf b hb).1
  done := by
    intro X hP hw hK hc i pins s σ H E I hf ⟨⟨old, he⟩, hit, hne, hai⟩ ⟨xs, hq, hx⟩
    subst hP hw hK
    obtain ⟨its, rv, p, hz⟩ := I.tuple hq
    obtain ⟨f0, f1, f2, f3, f4, f5⟩ := hf it (List.mem_cons_of_mem _ List.mem_cons_self)
    have hl : its.toArray.size = i := by rw [List.size_toArray, ← rv.length]; exact hx
    have DT := Draws.tuple (prog := X.prog) (w := X.w) (A := X.A.in1) (show X.A.in1.handled = none from I.ok.hd hc) it a hai its.toArray
    rw [hl] at DT
    exact PySem.wpAny_pyNext_enum_endD DT he ⟨hit, p⟩
      fun h' eb => ⟨rfl, I.turned (t' := s.toks) (fun b o hb q => eb b o hb q) f0 f1 f3 f4 f5⟩
  self := fun A i s Q E ⟨⟨_, he⟩, _⟩ h => wpAny_pyIter_enum he h
theorem meetsEnumT {l : Addr} {items : Array Value} :
    Meets (Builtin.«enumerate.__new__» ⟨[.type "enumerate", .ref l], []⟩) fun _ R s => s.heap.IsTuple l items ∧
      R (.ok (.ret (.ref (s.heap.push { cls := .type "tuple_iterator", data := .fields #[.ref l, .int 0 0] }).objs.size)))
        { s with heap := (s.heap.push { cls := .type "tuple_iterator", data := .fields #[.ref l, .int 0 0] }).push { cls := .type "enumerate", data := .fields #[.none, .bool false, .ref s.heap.objs.size, rawInt 0, .none, .none] } } :=
  .of_wp fun prog w A R s h => by
    obtain ⟨hp, g, d, tk, os⟩ := s
    obtain ⟨hl, h⟩ := h
    have q1 : ∀ {A' : Around} {E Q : Value → Shared → Prop}, Q (.ref hp.objs.size) ⟨hp.push { cls := .type "tuple_iterator", data := .fields #[.ref l, .int 0 0] }, g, d, tk, os⟩ → wpAny (model prog w) A' (pyIter (.ref l)) Q E ⟨hp, g, d, tk, os⟩ := fun q => wpAny_pyIter_tuple hl q
    have hsub := sub_enumerate
    wp_walk using q1
    refine wpAny_stack_any fun st => wpAny_pure ?_
    split
    · rename_i c _ _ _ _ _
      cases (c == Value.type "enumerate") <;> (wp_walk using q1; exact ⟨_, rfl, h⟩)
    · wp_walk using q1
      exact ⟨_, rfl, h⟩
theorem callEnumT {prog : Program} {w : World} {A : Around} {E : Value → Shared → Prop} {s : Shared} {l : Addr} {items : Array Value} {Q : Value → Shared → Prop} (hL : s.heap.IsTuple l items)
    (h : ∀ h', IsEnum h' (s.heap.objs.size + 1) s.heap.objs.size 0 .none → h'.IsTupleIter s.heap.objs.size l 0 → (∀ b o, s.heap.get? b = some o → h'.get? b = some o) → Q (.ref (s.heap.objs.size + 1)) { s with heap := h' }) :
    wpAny (model prog w) A (call (.type "enumerate") [.ref l]) Q E s := by
  refine callType_new F.called_enumerate (by decide) (F.typeCall_enumerate_1 _) (F.newCall_enumerate_1 _) (fun obj => F.args_object_init_2 obj _) F.entry_enumerate_new meetsEnumT ⟨hL, ?_⟩
  generalize hto : ({ cls := .type "tuple_iterator", data := .fields #[.ref l, .int 0 0] } : Obj) = to
  have hz : (s.heap.push to).objs.size = s.heap.objs.size + 1 := Heap.size_push ..
  show _ ∧ _
  rw [hz]
  have he : IsEnum ((s.heap.push to).push { cls := .type "enumerate", data := .fields #[.none, .bool false, .ref s.heap.objs.size, rawInt 0, .none, .none] }) (s.heap.objs.size + 1) s.heap.objs.size 0 .none := by
    have := Heap.get?_push_size (s.heap.push to) (o := { cls := .type "enumerate", data := .fields #[.none, .bool false, .ref s.heap.objs.size, rawInt 0, .none, .none] }) rfl
    rw [hz] at this
    exact this
  have hfree : to.isFreed = false := by rw [← hto]; rfl
  refine ⟨⟨_, he, rfl⟩, h _ he ?_ fun b o x => Heap.get?_push_of_some _ (Heap.get?_push_of_some _ x)⟩
  exact ⟨to, Heap.get?_push_of_some _ (Heap.get?_push_size _ hfree), by rw [← hto], by rw [← hto]; rfl⟩
def iEnumA (K : PySem.W.Frag) (ta : TA) : TI := fun σ H R => ta σ H fun vs H1 => ∃ a xs, vs = [.ref a] ∧ ((SqL K H1 a xs ∧ R (Ite K a) H1) ∨ (SqT K H1 a xs ∧ R (IteT K a) H1))
theorem pi_enumA {X : Cx} {e : Expr} {ta : TA} {p pos tpos : Pos} {elts : List Expr} {kk : Nat} (hg : Gl X "enumerate") (hm : X.mg "enumerate" = none) (ha : PA X [e] ta) (hs : starEach [e] X.env = [(false, eval e X.env)] := by rfl) :
    PI X (.Tuple elts kk tpos) (.Call (.Name "enumerate" p) [e] [] pos) (iEnumA X.K ta) := by
  refine ⟨fun pins s σ H R I h => Call_ (ld_blt I hg hm boot_enumerate (PyProof.Rows.callWith_type1 (thn (ha.run pos pins s σ H _ I h) fun us s1 ⟨vs, H1, I1, r1, q1⟩ => ?_) hs rfl))⟩
  obtain ⟨a, xs, rfl, q⟩ := q1
  obtain ⟨u, rfl, ru⟩ := vals1 r1
  cases ru
  have fresh2 : ∀ b ∈ [s1.heap.objs.size + 1, s1.heap.objs.size], FpOk X pins H1 b := fun b hb => by
    have hle : s1.heap.objs.size ≤ b := by
      rcases List.mem_cons.mp hb with rfl | hb
      · exact Nat.le_succ _
      · cases List.mem_singleton.mp hb; exact Nat.le_refl _
    exact I1.fpOk hle (I1.hok.fresh hle)
  rcases q with ⟨hq, q⟩ | ⟨hq, q⟩
  · obtain ⟨its, rv, p', hz⟩ := I1.list hq
    refine call_enumerate_list p'.isList fun h' he hit hsz hk => wpAny_pyIter_enum he ?_
    exact ⟨_, _, _, _, H1, rfl, I1.kept (t' := s1.toks) hk, turn_enum a (s1.heap.objs.size + 1) s1.heap.objs.size, ⟨⟨.none, he⟩, hit, Nat.succ_ne_self _⟩, fresh2, q⟩
  · obtain ⟨its, rv, p', hz⟩ := I1.tuple hq
    have ha : a < s1.heap.objs.size := let ⟨_, g, _⟩ := p'; Heap.lt_size g
    refine callEnumT p' fun h' he hit hk => wpAny_pyIter_enum he ?_
    exact ⟨_, _, _, _, H1, rfl, I1.kept (t' := s1.toks) hk, turnEnumT a (s1.heap.objs.size + 1) s1.heap.objs.size, ⟨⟨.none, he⟩, hit, Nat.succ_ne_self _, Nat.ne_of_lt ha⟩, fresh2, q⟩
theorem walk_enumT {K : PySem.W.Frag} {a : Addr} {xs : List V} : Walk (IteT K a) xs.length (fun H => SqT K H a xs) (YPair (fun i => some (.int (i : Nat))) fun i => xs[i]?) where
  goes := fun i _ hi q => ⟨xs, xs[i], q, List.getElem?_eq_getElem hi⟩
  stops := fun _ q => ⟨xs, q, rfl⟩
  yields := fun i H v H' _ q ⟨T, x, h1, h2, h3, h4⟩ => ⟨T, _, x, h1, h2, h3, rfl, h4 xs q⟩
end Lm


namespace Lm
open PySem PySem.Spec PyProof.Rows L2
/-- the greatest one of these and m -/
def mxOf (m : Int) (ns : List Int) : Int := ns.foldl (fun m n => if n > m then n else m) m
section
variable {prog : Program} {w : World} {A : Around} {E : Value → Shared → Prop} {s : Shared}
/-- a call of a built-in function with keywords, by its tree -/
theorem callFnKw {id : String} {b : Builtin} {args : List Value} {kw : List (Str × Value)} {Q : Value → Shared → Prop} (hk : builtinKind id = none) (hp : plainId id = true) (hb : entryFor table id = some b) (ha : argsOk id ⟨args, kw⟩)
    (hc : wpAny (model prog w) A.in1 (b ⟨args, kw⟩) (fun fin s' => match fin with
      | .done f => (match (Except.ok f : Result) with | .ok (.ret v) => Q v s' | .ok _ => False | .error e => E e s')
      | .again c' => c'.quiet = true ∧ codeAny (model prog w) A c' (fun r s' => match r with | .ok (.ret v) => Q v s' | .ok _ => False | .error e => E e s') s') E s) :
    wpAny (model prog w) A (call (.builtin id) args kw) Q E s := by
  refine wpAny_call (codeAny_call_builtin hp hb ?_)
  simp only [checkBuiltinCall, hk]
  cases hsig : Manifest.signature? id with
  | none => exact wpAny_pure hc
  | some sig =>
    have h2 : Bind.checkArgs id sig ⟨args, kw⟩ = pure () := by simpa only [argsOk, hsig] using ha
    show wpAny _ A.in1 (Bind.checkArgs id sig ⟨args, kw⟩) _ _ s
    exact h2 ▸ wpAny_pure hc
/-- max's loop with any keywords, from the j-th item on, the greatest so far being m -/
theorem maxLoopKw {R : Result → Shared → Prop} {I a S : Addr} {its : Array Value} {ns : List Int} {kw : List (Str × Value)} (hh : A.handled = none) (hi : IntsAre its.toList ns) (hSI : S ≠ I) (hSa : S ≠ a) (haI : a ≠ I) :
    ∀ (k j : Nat) (s : Shared) (m : Int) (t : Tok) (c : Nat), ns.length - j = k → j ≤ ns.length → s.heap.IsTupleIter I a j → s.heap.IsTuple a its → s.heap.get? S = some { cls := .type "list", data := .seq #[.int m t, .int m t] c } →
    (∀ h' tk t', (∀ b o, b ≠ I → b ≠ S → s.heap.get? b = some o → h'.get? b = some o) → R (.ok (.ret (.int (mxOf m (ns.drop j)) t'))) { s with heap := h', toks := tk }) →
    codeAny (model prog w) A (.builtin "max.loop" ⟨[.ref I, .none, .ref S], kw⟩) R s := by
  have hname : (toString "max" ++ toString ".loop" : String) = "max.loop" := by decide
  have hsz : its.size = ns.length := by rw [← Array.length_toList]; exact hi.length
  have W := Walks.tuple (prog := prog) (w := w) (A := A.in1) hh I a haI its
  intro k
  induction k with
  | zero =>
    intro j s m t c hk hj hit ht hS hR
    have e : j = ns.length := by omega
    subst e
    refine codeAny_builtin F.entry_max_loop ?_
    rw [Around.under_plainId F.plain_max_loop _]
    show wpAny _ A.in1 (seqItems? (.ref S) >>= _) _ _ s
    refine wpAny_bind (wpAny_seqItems hS rfl (wpAny_bind (wpAny_tryCatch (W.done s _ _ (hsz ▸ ⟨hit, ht⟩) fun h' tk hk' => ?_))))
    have hS' := hk' S _ (by simpa using hSI) hS
    show wpAny _ A.in1 (updateSeq S (fun _ => #[]) >>= _) _ _ _
    refine wpAny_bind (wpAny_updateSeq hS' rfl (wpAny_bind (wpAny_letGo (wpAny_pure ?_))))
    have := hR (h'.update S (Obj.mapSeq fun _ => #[])) tk t fun b o hb hb' q => (Heap.get?_update_other _ _ hb'.symm).trans (hk' b o (by simpa using hb) q)
    rw [List.drop_length] at this
    exact this
  | succ k ih =>
    intro j s m t c hk hj hit ht hS hR
    have hlt : j < ns.length := by omega
    obtain ⟨tj, hjt⟩ := hi.get j ns[j] (List.getElem?_eq_getElem hlt)
    refine codeAny_builtin F.entry_max_loop ?_
    rw [Around.under_plainId F.plain_max_loop _]
    show wpAny _ A.in1 (seqItems? (.ref S) >>= _) _ _ s
    refine wpAny_bind (wpAny_seqItems hS rfl (wpAny_bind (wpAny_tryCatch (W.item j s _ _ (by omega) ⟨hit, ht⟩ fun v h' tk hP hst' hk' => ?_))))
    have ev : v = .int ns[j] tj := by
      have h1 : its.toList[j]? = some v := by simpa using hP
      rw [hjt] at h1
      exact (Option.some.inj h1).symm
    subst ev
    have hS' := hk' S _ (by simpa using hSI) hS
    have hdrop : ns.drop j = ns[j] :: ns.drop (j + 1) := List.drop_eq_getElem_cons hlt
    have gt : ∀ (s0 : Shared) (Q0 E0 : Value → Shared → Prop), Q0 (.bool (decide (ns[j] > m))) s0 → wpAny (model prog w) A.in1 (richCompare .Gt (.int ns[j] tj) (.int m t)) Q0 E0 s0 := fun s0 Q0 E0 q =>
      CmpOf.ints_gt (A := A.in1) (P := fun i v => (i = 0 ∧ v = .int ns[j] tj) ∨ (i = 1 ∧ v = .int m t)) (fun i => if i = 0 then ns[j] else m) (by rintro i v (⟨rfl, rfl⟩ | ⟨rfl, rfl⟩) <;> exact ⟨_, rfl⟩) 0 1 _ _ s0 Q0 E0 (.inl ⟨rfl, rfl⟩) (.inr ⟨rfl, rfl⟩) (by simpa using q)
    refine wpAny_bind (wpAny_pure ?_)
    refine wpAny_bind (wpAny_tryCatch (wpAny_holding (wpAny_bind (gt _ _ _ (wpAny_bind (wpAny_holding (wpAny_truthy_bool (wpAny_bind (wpAny_letGo (wpAny_pure ?_))))))))))
    by_cases hb : ns[j] > m
    · simp only [hb, decide_true, if_true]
      have e2 : mxOf m (ns.drop j) = mxOf ns[j] (ns.drop (j + 1)) := by
        rw [hdrop]
        exact congrArg (fun z => mxOf z (ns.drop (j + 1))) (if_pos hb)
      refine wpAny_bind (wpAny_updateSeq hS' rfl (wpAny_bind (wpAny_letGo ?_)))
      rw [hname]
      have oth : ∀ b o, b ≠ S → h'.get? b = some o → (h'.update S (Obj.mapSeq fun _ => #[.int ns[j] tj, .int ns[j] tj])).get? b = some o := fun b o q e => (Heap.get?_update_other _ _ q.symm).trans e
      refine wpAny_pure ⟨plainId_quiet F.plain_max_loop _, ih (j + 1) _ ns[j] tj _ (by omega) hlt (hst'.1.at fun o q => oth _ _ hSI.symm q) (hst'.2.at fun o q => oth _ _ hSa.symm q) (Heap.get?_update_self _ hS' rfl) fun h'' tk'' t'' hk'' => ?_⟩
      exact e2 ▸ hR h'' tk'' t'' fun b o hbI hbS q => hk'' b o hbI hbS (oth b o hbS (hk' b o (by simpa using hbI) q))
    · simp only [hb, decide_false, Bool.false_eq_true, if_false]
      have e2 : mxOf m (ns.drop j) = mxOf m (ns.drop (j + 1)) := by
        rw [hdrop]
        exact congrArg (fun z => mxOf z (ns.drop (j + 1))) (if_neg hb)
      refine wpAny_bind (wpAny_letGo ?_)
      rw [hname]
      refine wpAny_pure ⟨plainId_quiet F.plain_max_loop _, ih (j + 1) _ m t c (by omega) hlt hst'.1 hst'.2 hS' fun h'' tk'' t'' hk'' => ?_⟩
      exact e2 ▸ hR h'' tk'' t'' fun b o hbI hbS q => hk'' b o hbI hbS (hk' b o (by simpa using hbI) q)
/-- max(t, default=d) of a tuple of ints -/
theorem callMaxD {a : Addr} {its : Array Value} {ns : List Int} {d : Value} {Q : Value → Shared → Prop} (hh : A.handled = none) (ht : s.heap.IsTuple a its) (hi : IntsAre its.toList ns)
    (h0 : ns = [] → ∀ h' tk, (∀ b o, s.heap.get? b = some o → h'.get? b = some o) → Q d { s with heap := h', toks := tk })
    (h1 : ∀ n ms, ns = n :: ms → ∀ h' tk t', (∀ b o, s.heap.get? b = some o → h'.get? b = some o) → Q (.int (mxOf n ms) t') { s with heap := h', toks := tk }) :
    wpAny (model prog w) A (call (.builtin "max") [.ref a] [("default", d)]) Q E s := by
  have hname : (toString "max" ++ toString ".loop" : String) = "max.loop" := by decide
  refine callFnKw F.kind_max F.plain_max F.entry_max (by unfold argsOk; kernel_rfl) ?_
  show wpAny _ A.in1 (Builtin.Builtins.bindParams "max" ["key", "default"] 0 ⟨[], [("default", d)]⟩ >>= _) _ _ s
  refine wpAny_bind (wpAny_of_eq (a := [none, some d]) rfl (wpAny_bind (wpAny_pure (wpAny_bind (wpAny_pyIter_tuple ht ?_)))))
  refine wpAny_bind (wpAny_newObj_type ?_)
  have haL : a < s.heap.objs.size := let ⟨_, g, _⟩ := ht; Heap.lt_size g
  generalize hhp : (s.heap.push { cls := .type "tuple_iterator", data := .fields #[.ref a, .int 0 0] }) = hp
  have hps : hp.objs.size = s.heap.objs.size + 1 := by rw [← hhp]; exact Heap.size_push ..
  have old : ∀ b o, s.heap.get? b = some o → hp.get? b = some o := fun b o q => by rw [← hhp]; exact Heap.get?_push_of_some _ q
  rw [hname]
  have W := Walks.tuple (prog := prog) (w := w) (A := A.in1) hh s.heap.objs.size a (Nat.ne_of_lt haL) its
  have sz : its.size = ns.length := by rw [← Array.length_toList]; exact hi.length
  have hS : (hp.push (seqObj "list" #[] 0)).get? hp.objs.size = some { cls := .type "list", data := .seq #[] 0 } := Heap.get?_push_size _ rfl
  have hitI : (hp.push (seqObj "list" #[] 0)).IsTupleIter s.heap.objs.size a 0 := ⟨_, Heap.get?_push_of_some _ (by rw [← hhp]; exact Heap.get?_push_size _ rfl), rfl, rfl⟩
  have htI : (hp.push (seqObj "list" #[] 0)).IsTuple a its := ht.at fun o q => Heap.get?_push_of_some _ (old _ _ q)
  have nIS : hp.objs.size ≠ s.heap.objs.size := by omega
  have nSa : hp.objs.size ≠ a := Nat.ne_of_gt (Nat.lt_of_lt_of_le haL (hps ▸ Nat.le_succ _))
  refine wpAny_pure ⟨plainId_quiet F.plain_max_loop _, codeAny_builtin F.entry_max_loop ?_⟩
  rw [Around.under_plainId F.plain_max_loop _]
  show wpAny _ A.in1 (seqItems? (.ref hp.objs.size) >>= _) _ _ _
  refine wpAny_bind (wpAny_seqItems hS rfl ?_)
  cases ns with
  | nil =>
    refine wpAny_bind (wpAny_tryCatch (W.done _ _ _ (sz ▸ ⟨hitI, htI⟩) fun h' tk hk => ?_))
    refine wpAny_bind (wpAny_rule (wpAny_pure ?_))
    exact h0 rfl h' tk fun b o q => hk b o (by simpa using Nat.ne_of_lt (Heap.lt_size q)) (Heap.get?_push_of_some _ (old b o q))
  | cons n ms =>
    obtain ⟨t0, ht0⟩ := hi.get 0 n rfl
    refine wpAny_bind (wpAny_tryCatch (W.item 0 _ _ _ (by rw [sz]; exact Nat.succ_pos _) ⟨hitI, htI⟩ fun v h' tk hP hst hk => ?_))
    have ev : v = .int n t0 := by
      have h1 : its.toList[0]? = some v := by simpa using hP
      rw [ht0] at h1
      exact (Option.some.inj h1).symm
    subst ev
    have hS' := hk _ _ (by simpa using nIS) hS
    refine wpAny_bind (wpAny_pure (wpAny_bind (wpAny_updateSeq hS' rfl ?_)))
    have oth : ∀ b o, b ≠ hp.objs.size → h'.get? b = some o → (h'.update hp.objs.size (Obj.mapSeq fun _ => #[.int n t0, .int n t0])).get? b = some o := fun b o q e => (Heap.get?_update_other _ _ q.symm).trans e
    rw [hname]
    refine wpAny_pure ⟨plainId_quiet F.plain_max_loop _, maxLoopKw hh hi nIS nSa (Nat.ne_of_lt haL) _ 1 _ n t0 _ rfl (Nat.succ_le_succ (Nat.zero_le _)) (hst.1.at fun o q => oth _ _ nIS.symm q) (hst.2.at fun o q => oth _ _ nSa.symm q) (Heap.get?_update_self _ hS' rfl) fun h'' tk'' t'' hk'' => ?_⟩
    refine h1 n ms rfl h'' tk'' t'' fun b o q => ?_
    have lb := Heap.lt_size q
    have b1 : b ≠ s.heap.objs.size := Nat.ne_of_lt lb
    have b2 : b ≠ hp.objs.size := Nat.ne_of_lt (Nat.lt_of_lt_of_le lb (hps ▸ Nat.le_succ _))
    exact hk'' b o b1 b2 (oth b o b2 (hk b o (by simpa using b1) (Heap.get?_push_of_some _ (old b o q))))
end
def rMaxDT (K : PySem.W.Frag) : List V → List V → Hp → VK → Prop := fun xs zs H Q => ∃ (a : Addr) (ns : List Int) (d : Int), xs = [.ref a] ∧ zs = [.int d] ∧ SqT K H a (ns.map V.int) ∧ Q (.int (match ns with | [] => d | n :: ms => mxOf n ms)) H
theorem cr_maxD {X : Cx} (hc : X.calm = true) : CallRK X (.builtin "max") [Str.ofString "default"] (rMaxDT X.K) := by
  intro pins s σ H vs zs us ws Q I r rz h
  obtain ⟨a, ns, d, rfl, rfl, hs, q⟩ := h
  obtain ⟨u, rfl, e⟩ := vals1 r
  cases e
  obtain ⟨w1, rfl, t, rfl⟩ := vals1 rz
  obtain ⟨its, rv, p, hz⟩ := I.tuple hs
  have hi := ints_of_vals rv
  refine callMaxD (ns := ns) (I.ok.hd hc) (show s.heap.IsTuple a its.toArray from p) hi (fun e h' tk hk => ?_) fun n ms e h' tk t' hk => ?_
  · subst e
    exact ⟨.int d, H, I.kept hk, ⟨_, rfl⟩, q⟩
  · subst e
    exact ⟨.int (mxOf n ms), H, I.kept hk, ⟨_, rfl⟩, q⟩
end Lm


namespace Lm
open PySem PySem.Spec PyProof.Rows L2
section
variable {X : Cx}
/-! ### rules that serve several kinds of values: the derivation need not know which -/
def rAddA (K : PySem.W.Frag) : R2 := fun x y H Q => rI0 (fun i j => .int (i + j)) x y H Q ∨ rCatN K x y H Q ∨ rCat x y H Q
theorem op_addA : OpR X (binaryOp .Add) (rAddA X.K) := op_add.or (op_catN.or op_cat)
def rMulA : R2 := fun x y H Q => rI CMul (fun i j => .int (i * j)) x y H Q ∨ rRep x y H Q
theorem op_mulA : OpR X (binaryOp .Mult) rMulA := op_mul.or op_rep
def rEqA (K : PySem.W.Frag) : R2 := fun x y H Q => rEq x y H Q ∨ rEqD K x y H Q
theorem op_eqA (hu : X.A.units + 64 < cLine) : OpR X (compareOp .Eq) (rEqA X.K) := op_eq.or (op_eqD hu)
def rNeA (K : PySem.W.Frag) : R2 := fun x y H Q => rNe x y H Q ∨ rNeD K x y H Q
theorem op_neA (hu : X.A.units + 64 < cLine) : OpR X (compareOp .NotEq) (rNeA X.K) := op_ne.or (op_neD hu)
def iSeq (K : PySem.W.Frag) (tl : TE) : TI := fun σ H R => iList K tl σ H R ∨ iTup K tl σ H R
theorem pi_seq {e tg : Expr} {tl : TE} (h : PE X e tl) : PI X tg e (iSeq X.K tl) := by
  refine ⟨fun pins s σ H R I q => ?_⟩
  rcases q with q | q
  · exact (pi_list h).run pins s σ H R I q
  · exact (pi_tup h).run pins s σ H R I q
def rUnits {k : Nat} {A : Around} (hr : Room k A) : A.units + 64 < cLine := by have := hr.un; omega
end
variable {c : Ct} {H H' H0 H1 H2 H3 : Hp} {O : List Addr} {σ : L2.St} {Γ Γ' Γ1 : List (Option Rs)}
variable {te ta tb tx tl : TE} {tt tu : TT} {tr : TA} {k ka kb kc : Kd} {d x y z : PyData} {i j : Int} {a b : Bool} {kv fz : Bool} {ds es : List PyData}
theorem e_add (ha : Ev c ta Γ ka (.int i)) (hb : Ev c tb Γ kb (.int j)) : Ev c (tOp (rAddA c.K) ta tb) Γ .v (.int (i + j)) :=
  d_bin ha hb fun H O v u Q bv bu q => .inl ⟨i, j, bv.int', bu.int', q _ H Rr.rf (.int _)⟩
theorem e_eqI (ha : Ev c ta Γ ka (.int i)) (hb : Ev c tb Γ kb (.int j)) : Ev c (tOp (rEqA c.K) ta tb) Γ .v (.bool (decide (i = j))) :=
  d_bin ha hb fun H O v u Q bv bu q => .inl ⟨by rw [bv.int', bu.int']; rfl, by rw [bv.int', bu.int', decI]; exact q _ H Rr.rf (.bl _)⟩
theorem e_neI (ha : Ev c ta Γ ka (.int i)) (hb : Ev c tb Γ kb (.int j)) : Ev c (tOp (rNeA c.K) ta tb) Γ .v (.bool (!decide (i = j))) :=
  d_bin ha hb fun H O v u Q bv bu q => .inl ⟨by rw [bv.int', bu.int']; rfl, by rw [bv.int', bu.int', decI]; exact q _ H Rr.rf (.bl _)⟩
theorem e_eqS {v w : V} (ha : Ev c ta Γ ka x) (hb : Ev c tb Γ kb y) (hx : scalD x = some v) (hy : scalD y = some w) (hs : scal v w = true) (hz : decide (v = w) = a) : Ev c (tOp (rEqA c.K) ta tb) Γ .v (.bool a) :=
  d_bin ha hb fun H O v' u' Q bv bu q => .inl ⟨by rw [bv.scal hx, bu.scal hy]; exact hs, by rw [bv.scal hx, bu.scal hy, hz]; exact q _ H Rr.rf (.bl _)⟩
theorem e_neS {v w : V} (ha : Ev c ta Γ ka x) (hb : Ev c tb Γ kb y) (hx : scalD x = some v) (hy : scalD y = some w) (hs : scal v w = true) (hz : (!decide (v = w)) = a) : Ev c (tOp (rNeA c.K) ta tb) Γ .v (.bool a) :=
  d_bin ha hb fun H O v' u' Q bv bu q => .inl ⟨by rw [bv.scal hx, bu.scal hy]; exact hs, by rw [bv.scal hx, bu.scal hy, hz]; exact q _ H Rr.rf (.bl _)⟩
theorem e_eqD (ha : Ev c ta Γ ka x) (hb : Ev c tb Γ kb y) (hx : SeqAt.shaped x = true) (hy : SeqAt.shaped y = true) : Ev c (tOp (rEqA c.K) ta tb) Γ .v (.bool (PyData.eqv x y)) :=
  d_bin ha hb fun H O v u Q bv bu q => .inr ⟨x, y, bv.dp, bu.dp, hx, hy, q _ H Rr.rf (.bl _)⟩
theorem e_neD (ha : Ev c ta Γ ka x) (hb : Ev c tb Γ kb y) (hx : SeqAt.shaped x = true) (hy : SeqAt.shaped y = true) : Ev c (tOp (rNeA c.K) ta tb) Γ .v (.bool (!PyData.eqv x y)) :=
  d_bin ha hb fun H O v u Q bv bu q => .inr ⟨x, y, bv.dp, bu.dp, hx, hy, q _ H Rr.rf (.bl _)⟩
theorem e_ixT (ha : Ev c ta Γ ka (.tuple ds)) (hb : Ev c tb Γ kb (.int i)) (he : atI ds i = some d) (hf : flatD d = true) : Ev c (tOp (rIx c.K) ta tb) Γ .v d := fun H0 O H σ e Q q =>
  ha H0 O H σ e _ fun v H1 r1 s1 => hb H0 O H1 σ (e.on r1) _ fun u H2 r2 s2 => by
    obtain ⟨p, xs, rfl, s, al⟩ := (Res.bo e (Res.on e r1 r2 s1)).tup'
    obtain ⟨x, hx, bx⟩ := atI_bo al he
    exact .inr (.inl ⟨p, xs, i, x, rfl, (Res.bo (e.on r1) s2).int', s.sq, hx, q x H2 (r1.tr r2) (Bo.flatM e (r1.tr r2) hf bx)⟩)
theorem e_ixL (ha : Ev c ta Γ ka (.list ds)) (hb : Ev c tb Γ kb (.int i)) (he : atI ds i = some d) (hf : flatD d = true) : Ev c (tOp (rIx c.K) ta tb) Γ .v d := fun H0 O H σ e Q q =>
  ha H0 O H σ e _ fun v H1 r1 s1 => hb H0 O H1 σ (e.on r1) _ fun u H2 r2 s2 => by
    obtain ⟨p, xs, rfl, _, s, al⟩ := (Res.bo e (Res.on e r1 r2 s1)).lst'
    obtain ⟨x, hx, bx⟩ := atI_bo al he
    exact .inl ⟨p, xs, i, x, rfl, (Res.bo (e.on r1) s2).int', s, hx, q x H2 (r1.tr r2) (Bo.flatM e (r1.tr r2) hf bx)⟩
/-- an item of a frozen tuple, whatever it is -/
theorem e_ixTv (ha : Ev c ta Γ .v (.tuple ds)) (hb : Ev c tb Γ kb (.int i)) (he : atI ds i = some d) : Ev c (tOp (rIx c.K) ta tb) Γ .v d := fun H0 O H σ e Q q =>
  ha H0 O H σ e _ fun v H1 r1 s1 => hb H0 O H1 σ (e.on r1) _ fun u H2 r2 s2 => by
    obtain ⟨p, xs, rfl, s, al⟩ := Bo.tup' (Res.on e r1 r2 s1)
    obtain ⟨x, hx, bx⟩ := atI_bo al he
    exact .inr (.inl ⟨p, xs, i, x, rfl, (Res.bo (e.on r1) s2).int', (sqT_same mns_same s).sq, hx, q x H2 (r1.tr r2) bx⟩)
theorem e_ixLv (ha : Ev c ta Γ .v (.list ds)) (hb : Ev c tb Γ kb (.int i)) (he : atI ds i = some d) : Ev c (tOp (rIx c.K) ta tb) Γ .v d := fun H0 O H σ e Q q =>
  ha H0 O H σ e _ fun v H1 r1 s1 => hb H0 O H1 σ (e.on r1) _ fun u H2 r2 s2 => by
    obtain ⟨p, xs, rfl, _, s, al⟩ := Bo.lst' (Res.on e r1 r2 s1)
    obtain ⟨x, hx, bx⟩ := atI_bo al he
    exact .inl ⟨p, xs, i, x, rfl, (Res.bo (e.on r1) s2).int', mns_same.seq s, hx, q x H2 (r1.tr r2) bx⟩
/-- a < b < c of ints -/
theorem d_chain {f g : Int → Int → Bool} {l : Int} (ha : Ev c ta Γ ka (.int i)) (hb : Ev c tb Γ kb (.int j)) (hc : f i j = true → Ev c tx Γ kc (.int l)) :
    Ev c (tChain (rI0 fun i j => .bl (f i j)) (rI0 fun i j => .bl (g i j)) ta tb tx) Γ .v (.bool (f i j && g j l)) := fun H0 O H σ e Q q =>
  ha H0 O H σ e _ fun v H1 r1 s1 => hb H0 O H1 σ (e.on r1) _ fun u H2 r2 s2 => by
    refine ⟨i, j, (Res.bo e s1).int', (Res.bo (e.on r1) s2).int', f i j, rfl, ?_⟩
    cases hf : f i j with
    | true =>
      refine iteT (hc hf H0 O H2 σ ((e.on r1).on r2) _ fun w H3 r3 s3 => ?_)
      exact ⟨j, l, (Res.bo (e.on r1) s2).int', (Res.bo ((e.on r1).on r2) s3).int', by
        have := q (.bl (g j l)) H3 ((r1.tr r2).tr r3)
        rw [hf, Bool.true_and] at this
        exact this (.bl _)⟩
    | false =>
      refine iteF ?_
      have := q (.bl false) H2 (r1.tr r2)
      rw [hf, Bool.false_and] at this
      exact this (.bl _)
/-! ### isinstance -/
def tyD : PyData → String
  | .none => "NoneType"
  | .bool _ => "bool"
  | .int _ => "int"
  | .str _ => "str"
  | .list _ => "list"
  | .tuple _ => "tuple"
  | .dict _ => "dict"
theorem Bo.ty {v : V} (h : Bo c H v d) : TyX c.K H v (.type (tyD d)) := by
  cases h with
  | non => exact .base .non
  | bl b => exact .base (.bl b)
  | int i => exact .base (.int i)
  | str x => exact .base (.str x)
  | lst _ s a =>
    rcases s with (s | ⟨o, s⟩) | ⟨o, its, n, h1, h2, _⟩
    · exact .base (.lst s)
    · exact .base (.frz s)
    · exact .kList h1 h2
  | tup s a =>
    rcases s with ⟨o, _, s⟩ | ⟨o, its, n, h1, h2, _⟩
    · exact .fTuple s
    · exact .kTuple h1 h2
theorem e_isi {n : String} (h : Ev c te Γ k d) (e : kitB (tyD d) n = some b) : Ev c (tCB (rIsi c.K) (tCons te (tCons (tC (.ty n)) tNil))) Γ .v (.bool b) := fun H0 O H σ en Q q =>
  h H0 O H σ en _ fun v H1 r1 s1 => ⟨v, .ty n, _, _, b, rfl, .ty n, (Res.bo en s1).ty, kit_ty e, q _ H1 r1 (.bl b)⟩
/-! ### what is walked -/
theorem i_seqL (h : Ev c tl Γ k (.list ds)) (hk : k ≠ .b) : EvI c (iSeq c.K tl) Γ true (ds.map Im.d) := fun H0 O H σ e R q => .inl (i_list h hk H0 O H σ e R q)
theorem i_seqT (h : Ev c tl Γ k (.tuple ds)) (hk : k ≠ .b) : EvI c (iSeq c.K tl) Γ true (ds.map Im.d) := fun H0 O H σ e R q => .inr (i_tup h hk H0 O H σ e R q)
/-- the places and the items -/
def enumI (ds : List PyData) : List Im := ds.zipIdx.map fun p => .t [.d (.int (p.2 : Nat)), .d p.1]
theorem enum_core {J : It} {xs : List V} {F : Hp} (jF : Ji c F) (hw : Walk J xs.length (fun H => Rr c F H) (YPair (fun i => some (.int (i : Nat))) fun i => xs[i]?)) (hb : BoAll c F xs ds) (hf : fz = true ∨ flatAll ds = true) : WD c F fz J (enumI ds) := by
  refine ⟨jF, ?_⟩
  have hl : xs.length = (enumI ds).length := by rw [hb.len]; simp [enumI]
  rw [hl] at hw
  refine hw.mono (fun _ h => h) fun i H x H' hi g y => ?_
  obtain ⟨T, x1, x2, rfl, hT, rfl, h1, h2⟩ := y
  cases h1
  obtain ⟨d, hd, bd⟩ := hb.get h2
  have sm : Same H (upd H T (.tup [.int (i : Nat), x2])) := fun b o z => by rw [upd_ne (ne_of_none z hT)]; exact z
  refine ⟨sm, .t [.d (.int (i : Nat)), .d d], ?_, .tup (.inl (.inl upd_same)) (.cons (.leaf (.inl ⟨rfl, .int _⟩)) (.cons (.leaf ?_) .nil))⟩
  · simp [enumI, hd]
  · rcases hf with hf | hf
    · exact .inr ⟨hf, bd⟩
    · exact .inl ⟨flatAll_one hf (List.mem_of_getElem? hd), bd.mono jF (g.tr (Rr.same sm))⟩
theorem i_enumT (h : EvA c tr Γ true [.tuple ds]) : EvI c (iEnumA c.K tr) Γ true (enumI ds) := fun H0 O H σ e R q =>
  h H0 O H σ e _ fun vs H1 r s => by
    obtain ⟨x, rfl, b⟩ := (BoAll.vm s).one
    obtain ⟨p, xs, rfl, sl, al⟩ := b.tup'
    exact ⟨p, xs, rfl, .inr ⟨(sqT_same mns_same sl).sq, q _ H1 r (enum_core (e.on r).j (walk_enumT.mono (fun H h => (h.tup (e.on r).j sl).sq) fun _ _ _ _ _ _ y => y) al (.inl rfl))⟩⟩
/-- max(t, default=d) -/
def mxD (d : Int) : List Int → Int
  | [] => d
  | n :: ms => mxOf n ms
theorem e_maxD {ns : List Int} (h : Ev c ta Γ ka (.tuple (ns.map .int))) (hb : Ev c tb Γ kb (.int i)) : Ev c (tCKw (rMaxDT c.K) (tCons ta tNil) (tCons tb tNil)) Γ .v (.int (mxD i ns)) := fun H0 O H σ e Q q =>
  h H0 O H σ e _ fun v H1 r1 s1 => hb H0 O H1 σ (e.on r1) _ fun u H2 r2 s2 => by
    obtain ⟨p, xs, rfl, s, al⟩ := (Res.bo e (Res.on e r1 r2 s1)).tup'
    have := al.ints
    subst this
    refine ⟨p, ns, i, rfl, by rw [(Res.bo (e.on r1) s2).int'], s.sq, ?_⟩
    cases ns with
    | nil => exact q _ H2 (r1.tr r2) (.int _)
    | cons n ms => exact q _ H2 (r1.tr r2) (.int _)
end Lm


namespace Lm
open PySem PySem.Spec PyProof.Rows L2
section
variable {prog : Program} {w : World} {A : Around} {E : Value → Shared → Prop} {s : Shared}
/-- iter(t), what it takes to walk t -/
theorem iterTup {a : Addr} {its : Array Value} {Q : Value → Shared → Prop} (ht : s.heap.IsTuple a its)
    (h : ∀ s2 : Shared, s2 = { s with heap := s.heap.push { cls := .type "tuple_iterator", data := .fields #[.ref a, .int 0 0] } } → s2.heap.IsTupleIter s.heap.objs.size a 0 ∧ s2.heap.IsTuple a its → (∀ b ∈ [s.heap.objs.size, a], b < s2.heap.objs.size) → a ≠ s.heap.objs.size →
      (∀ b o, s.heap.get? b = some o → b ∉ [s.heap.objs.size] ∧ s2.heap.get? b = some o) → Q (.ref s.heap.objs.size) s2) : wpAny (model prog w) A (pyIter (.ref a)) Q E s := by
  have hlt : a < s.heap.objs.size := let ⟨_, g, _⟩ := ht; Heap.lt_size g
  refine wpAny_pyIter_tuple ht (h _ rfl ⟨⟨_, Heap.get?_push_size _ rfl, rfl, rfl⟩, ht.at fun o q => Heap.get?_push_of_some _ q⟩ (fun b hb => ?_) (Nat.ne_of_lt hlt) fun b o q => ⟨by simpa using Nat.ne_of_lt (Heap.lt_size q), Heap.get?_push_of_some _ q⟩)
  show b < (s.heap.push _).objs.size
  rw [Heap.size_push]
  rcases List.mem_cons.mp hb with rfl | hb
  · exact Nat.lt_succ_self _
  · cases List.mem_singleton.mp hb
    exact Nat.lt_succ_of_lt hlt
theorem preSum_take (ns : List Int) : ∀ j, j ≤ ns.length → preSum (fun i => ns.getD i 0) j = (ns.take j).sum
  | 0, _ => rfl
  | j + 1, h => by
    have e : ns[j]? = some ns[j] := List.getElem?_eq_getElem h
    rw [preSum, preSum_take ns j (Nat.le_of_succ_le h), sum_take e, List.getD_eq_getElem?_getD, e]
    rfl
theorem callSumT {a : Addr} {its : Array Value} {ns : List Int} {Q : Value → Shared → Prop} (hh : A.handled = none) (ht : s.heap.IsTuple a its) (hi : IntsAre its.toList ns)
    (h : ∀ h' tk t', (∀ b o, s.heap.get? b = some o → h'.get? b = some o) → Q (.int ns.sum t') { s with heap := h', toks := tk }) : wpAny (model prog w) A (call (.builtin "sum") [.ref a]) Q E s := by
  have hsz : its.size = ns.length := by rw [← Array.length_toList]; exact hi.length
  refine call_sum_walkG (iterTup ht fun s2 e st hfp hne old => ?_)
  refine ⟨_, _, _, ns.length, _, _, fun i => ns.getD i 0, rfl, hsz ▸ Walks.tuple (A := A.in1) hh _ a hne its, st, hfp, fun i v q => ?_, fun h' tk t' hk => ?_⟩
  · have h1 : its.toList[i]? = some v := by simpa using q
    have hlt : i < ns.length := by rw [← hi.length]; exact (List.getElem?_eq_some_iff.mp h1).1
    obtain ⟨t, h2⟩ := hi.get i ns[i] (List.getElem?_eq_getElem hlt)
    rw [h1] at h2
    refine ⟨t, ?_⟩
    show v = Value.int (ns.getD i 0) t
    rw [List.getD_eq_getElem?_getD, List.getElem?_eq_getElem hlt]
    exact Option.some.inj h2
  · rw [preSum_take ns _ (Nat.le_refl _), List.take_length]
    subst e
    exact h h' tk t' fun b o q => hk b o (old b o q).1 (old b o q).2
end
def rSumT (K : PySem.W.Frag) : List V → Hp → VK → Prop := fun vs H Q => ∃ (a : Addr) (ns : List Int), vs = [V.ref a] ∧ SqT K H a (ns.map V.int) ∧ Q (.int ns.sum) H
def rSumA (K : PySem.W.Frag) : List V → Hp → VK → Prop := fun vs H Q => rSum K vs H Q ∨ rSumT K vs H Q
section
variable {X : Cx}
theorem cr_sumT (hc : X.calm = true) : CallR X (.builtin "sum") (rSumT X.K) := by
  rintro pins s σ H vs us Q I r ⟨a, ns, rfl, hs, q⟩
  obtain ⟨its, rv, p, _⟩ := I.tuple hs
  rw [Vals.ref1 r]
  exact callSumT (I.ok.hd hc) (show s.heap.IsTuple a its.toArray from p) rv.ints fun h' tk t' hk => ⟨.int _, H, I.kept hk, ⟨_, rfl⟩, q⟩
theorem cr_sumA (hc : X.calm = true) : CallR X (.builtin "sum") (rSumA X.K) := (cr_sum hc).or (cr_sumT hc)
theorem cr_len : CallR X (.builtin "len") (rLen X.K) := call_len_seq
/-- a module's int -/
theorem pe_const {x : Str} {n : Int} {pos : Pos} (hg : Gl X x) (hm : ∃ t, X.mg x = some (.int n t)) (hd : (x == ("__debug__" : Str)) = false := by decide) : PE X (.Name x pos) (tC (.int n)) := by
  obtain ⟨t, h⟩ := hm
  exact pe_glob hg h ⟨t, rfl⟩ hd
/-- a built-in class as a value -/
theorem pe_ty {x : Str} {n : String} {pos : Pos} (hg : Gl X x) (hm : X.mg x = none) (hv : bootBuiltins x = some (.type n)) (hn : x ≠ "__name__" := by decide) (hd : (x == ("__debug__" : Str)) = false := by decide) : PE X (.Name x pos) (tC (.ty n)) :=
  pe_bltn hg hm hv rfl hn hd
/-- list(x) -/
def rListA (K : PySem.W.Frag) : List V → Hp → VK → Prop := fun xs H Q => ∃ p ys, xs = [.ref p] ∧ (SqL K H p ys ∨ SqT K H p ys) ∧ ∀ l, H l = none → Q (.ref l) (upd H l (.lst ys))
theorem cr_list : CallR X (.type "list") (rListA X.K) := call_list_of
end
variable {c : Ct} {H H' H0 H1 H2 H3 : Hp} {O : List Addr} {σ : L2.St} {Γ Γ' Γ1 : List (Option Rs)}
variable {te ta tb tx tl : TE} {tt tu : TT} {tr : TA} {k ka kb kc : Kd} {d x y z : PyData} {i j : Int} {a b : Bool} {kv fz : Bool} {ds es : List PyData}
theorem e_sumT {ns : List Int} (h : Ev c te Γ k (.tuple (ns.map .int))) : Ev c (tCB (rSumA c.K) (tCons te tNil)) Γ .v (.int ns.sum) :=
  d_cb (a_cons h a_nil) fun H O vs Q s q => by
    obtain ⟨x, rfl, b⟩ := s.one
    obtain ⟨p, xs, rfl, s, al⟩ := b.tup'
    have := al.ints
    subst this
    exact .inr ⟨p, ns, rfl, s.sq, q _ H Rr.rf (.int _)⟩
theorem e_sumL {ns : List Int} (h : Ev c te Γ k (.list (ns.map .int))) : Ev c (tCB (rSumA c.K) (tCons te tNil)) Γ .v (.int ns.sum) :=
  d_cb (a_cons h a_nil) fun H O vs Q s q => by
    obtain ⟨x, rfl, b⟩ := s.one
    obtain ⟨p, xs, rfl, _, s, al⟩ := b.lst'
    have := al.ints
    subst this
    exact .inl ⟨p, ns, rfl, s, q _ H Rr.rf (.int _)⟩
theorem e_listT (h : Ev c te Γ k (.tuple ds)) (hf : flatAll ds = true) : Ev c (tCB (rListA c.K) (tCons te tNil)) Γ .o (.list ds) := fun H0 O H σ e Q q =>
  h H0 O H σ e _ fun v H1 r s => by
    obtain ⟨p, xs, rfl, sl, al⟩ := (Res.bo e s).tup'
    refine ⟨p, xs, rfl, .inr sl.sq, fun l hl => ?_⟩
    have sm : Same H1 (upd H1 l (.lst xs)) := fun b u z => by rw [upd_ne (ne_of_none z hl)]; exact z
    exact q _ _ (r.tr (Rr.same sm)) ⟨[l], .lst upd_same (FoAll.leaves hf (al.same sm)), by simp, fun a ha => by
      cases List.mem_singleton.mp ha
      exact r.back e.jH hl⟩
end Lm
namespace Lm
open PySem PySem.Spec PyProof.Rows L2
variable {c : Ct} {Γ : List (Option Rs)} {te : TE} {tt : TT} {fz : Bool} {α : Type} {wi : TI} {g : TG} {vs : List Nat} {l : List α} {en : α → Im}
theorem d_lcB (m : α → Bool) (hi : EvI c wi Γ fz (l.map en)) (hl : l.length ≤ 1000000)
    (hb : ∀ a ∈ l, ∃ Γ' js, EvG c g (en a) (wipeG Γ vs) Γ' js ∧ (∀ j ∈ js, j ∈ vs) ∧ ∃ k, Ev c te Γ' k (.bool (m a))) : Ev c (tLc wi g tYes te vs) Γ .o (.list ((l.map m).map .bool)) := by
  have := d_lcA (te := te) (g := g) (vs := vs) (fun a => PyData.bool (m a)) hi hl fun a ha => by
    obtain ⟨Γ', js, h1, h2, k, h3⟩ := hb a ha
    exact ⟨Γ', js, h1, h2, h3.fo rfl⟩
  rw [List.map_map]
  exact this
theorem d_lcI (m : α → Int) (hi : EvI c wi Γ fz (l.map en)) (hl : l.length ≤ 1000000)
    (hb : ∀ a ∈ l, ∃ Γ' js, EvG c g (en a) (wipeG Γ vs) Γ' js ∧ (∀ j ∈ js, j ∈ vs) ∧ ∃ k, Ev c te Γ' k (.int (m a))) : Ev c (tLc wi g tYes te vs) Γ .o (.list ((l.map m).map .int)) := by
  have := d_lcA (te := te) (g := g) (vs := vs) (fun a => PyData.int (m a)) hi hl fun a ha => by
    obtain ⟨Γ', js, h1, h2, k, h3⟩ := hb a ha
    exact ⟨Γ', js, h1, h2, h3.fo rfl⟩
  rw [List.map_map]
  exact this
theorem d_lcPI (p : α → Bool) (m : α → Int) (hi : EvI c wi Γ fz (l.map en)) (hl : l.length ≤ 1000000)
    (hb : ∀ a ∈ l, ∃ Γ' js, EvG c g (en a) (wipeG Γ vs) Γ' js ∧ (∀ j ∈ js, j ∈ vs) ∧ EvT c tt Γ' (p a) ∧ (p a = true → ∃ k, Ev c te Γ' k (.int (m a)))) : Ev c (tLc wi g tt te vs) Γ .o (.list (((l.filter p).map m).map .int)) := by
  have := d_lc (te := te) (tt := tt) (g := g) (vs := vs) p (fun a => PyData.int (m a)) hi hl fun a ha => by
    obtain ⟨Γ', js, h1, h2, h3, h4⟩ := hb a ha
    exact ⟨Γ', js, h1, h2, h3, fun q => let ⟨k, h⟩ := h4 q; h.fo rfl⟩
  rw [List.map_map]
  exact this
end Lm
namespace Lm
open PySem
theorem flatT (ns : List Int) : flatD (.tuple (ns.map .int)) = true := flatAll_ints ns
end Lm
namespace Lm
open PySem PySem.Spec PyProof.Rows L2
def pairI (p : Int × Nat) : Im := .t [.d (.int ((p.2 : Nat) : Int)), .d (.int p.1)]
theorem enumI_ints (ns : List Int) : enumI (ns.map .int) = ns.zipIdx.map pairI := by
  unfold enumI
  rw [List.zipIdx_map, List.map_map]
  rfl
theorem i_enumTI {c : Ct} {Γ : List (Option Rs)} {tr : TA} {ns : List Int} (h : EvA c tr Γ true [.tuple (ns.map .int)]) : EvI c (iEnumA c.K tr) Γ true (ns.zipIdx.map pairI) := enumI_ints ns ▸ i_enumT h
end Lm
namespace Lm
open PySem PySem.Spec PyProof.Rows L2
def imI (n : Int) : Im := .d (.int n)
theorem i_seqTI {c : Ct} {Γ : List (Option Rs)} {tl : TE} {k : Kd} {ns : List Int} (h : Ev c tl Γ k (.tuple (ns.map .int))) (hk : k ≠ .b) : EvI c (iSeq c.K tl) Γ true (ns.map imI) := by
  have := i_seqT h hk
  rwa [List.map_map] at this
theorem i_seqLI {c : Ct} {Γ : List (Option Rs)} {tl : TE} {k : Kd} {ns : List Int} (h : Ev c tl Γ k (.list (ns.map .int))) (hk : k ≠ .b) : EvI c (iSeq c.K tl) Γ true (ns.map imI) := by
  have := i_seqL h hk
  rwa [List.map_map] at this
theorem kv_ne : Kd.v ≠ Kd.b := fun h => nomatch h
theorem ko_ne : Kd.o ≠ Kd.b := fun h => nomatch h
end Lm


/-! the rules, the written part given by name (within a comprehension's block it may not be read off the context) -/
namespace Lm
open PySem PySem.Spec PyProof.Rows L2
section
variable {X : Cx} {K : PySem.W.Frag} (hK : X.K = K)
include hK
theorem k_add : OpR X (binaryOp .Add) (rAddA K) := hK ▸ op_addA
theorem k_eq (hu : X.A.units + 64 < cLine) : OpR X (compareOp .Eq) (rEqA K) := hK ▸ op_eqA hu
theorem k_ne (hu : X.A.units + 64 < cLine) : OpR X (compareOp .NotEq) (rNeA K) := hK ▸ op_neA hu
theorem k_in : OpR X (compareOp .In) (rIn K false) := hK ▸ op_in_seq
theorem k_notIn : OpR X (compareOp .NotIn) (rIn K true) := hK ▸ op_notIn_seq
theorem k_ix : IxR X (rIx K) := hK ▸ ix_seq
theorem k_slT : SlR X (rSlN K) := hK ▸ sl_tupN
theorem k_isi : CallR X (.builtin "isinstance") (rIsi K) := hK ▸ call_isi
theorem k_len : CallR X (.builtin "len") (rLen K) := hK ▸ cr_len
theorem k_all (hc : X.calm = true) : CallR X (.builtin "all") (rAll K) := hK ▸ cr_all hc
theorem k_sum (hc : X.calm = true) : CallR X (.builtin "sum") (rSumA K) := hK ▸ cr_sumA hc
theorem k_tuple : CallR X (.type "tuple") (rTuple K) := hK ▸ cr_tuple
theorem k_list : CallR X (.type "list") (rListA K) := hK ▸ cr_list
theorem k_maxD (hc : X.calm = true) : CallRK X (.builtin "max") [Str.ofString "default"] (rMaxDT K) := hK ▸ cr_maxD hc
theorem k_count : MtR X "tuple.count" (rCountT K) := hK ▸ mt_tcount
theorem k_seq {e tg : Expr} {tl : TE} (h : PE X e tl) : PI X tg e (iSeq K tl) := hK ▸ pi_seq h
theorem k_enum {e : Expr} {ta : TA} {p pos tpos : Pos} {elts : List Expr} {kk : Nat} (hg : Gl X "enumerate") (hm : X.mg "enumerate" = none) (ha : PA X [e] ta) (hs : starEach [e] X.env = [(false, eval e X.env)] := by rfl) :
    PI X (.Tuple elts kk tpos) (.Call (.Name "enumerate" p) [e] [] pos) (iEnumA K ta) := hK ▸ pi_enumA hg hm ha hs
theorem k_zip {e e2 : Expr} {ta : TA} {p pos tpos : Pos} {elts : List Expr} {kk : Nat} (hg : Gl X "zip") (hm : X.mg "zip" = none) (ha : PA X [e, e2] ta)
    (hs : starEach [e, e2] X.env = (false, eval e X.env) :: starEach [e2] X.env := by rfl) (hpl : (backTo pos (starEach [e2] X.env)).any (·.1) = false := by rfl) :
    PI X (.Tuple elts kk tpos) (.Call (.Name "zip" p) [e, e2] [] pos) (RZ.iZipA K ta) := hK ▸ RZ.pi_zipA hg hm ha hs hpl
theorem k_tup {es : List Expr} {k : Nat} {t : TGs} {n : Nat} {pos : Pos} (hc : X.calm = true) (h : PGs X es t)
    (hn : (assignEach es X.env).length = n := by rfl) (hst : (assignEach es X.env).findIdx? (·.1) = none := by rfl) : PG X (.Tuple es k pos) (gTup K n t) := hK ▸ pg_tup hc h hn hst
theorem k_tm {name : Str} {id : String} {r : V → List V → Hp → VK → Prop} {o e : Expr} {es : List Expr} {to : TE} {t : TA} {apos cpos : Pos} (slot : Slot "tuple" name id) (hty : typeOf (.builtin id) = pure (.type "method_descriptor")) (hm : MtR X id r) (ho : PE X o to) (ha : PA X (e :: es) t)
    (hbase : attributeBase o name X.env (eval o X.env) = eval o X.env := by rfl)
    (hfew : ((backTo cpos (starEach (e :: es) X.env)).all (fun x => !x.1) && (backToKw cpos (keywordEach [] X.env)).all (fun x => x.1.isSome) && decide ((e :: es).length + ([] : List Keyword).length + (if ([] : List Keyword).isEmpty then 0 else 1) < 30)) = true := by rfl)
    (hline : (apos.endLine == cpos.line) = true := by rfl) (hs : starEach (e :: es) X.env = (false, eval e X.env) :: starEach es X.env := by rfl) (hplain : (backTo cpos (starEach es X.env)).any (·.1) = false := by rfl) :
    PE X (.Call (.Attribute o name apos) (e :: es) [] cpos) (tTM K r to t) := hK ▸ pe_tm slot hty hm ho ha hbase hfew hline hs hplain
theorem k_bm {T : String} {name : Str} {id : String} {r : V → List V → Hp → VK → Prop} {o e : Expr} {es : List Expr} {to : TE} {t : TA} {apos cpos : Pos} (pa : PlainAttrs T) (slot : Slot T name id) (hty : typeOf (.builtin id) = pure (.type "method_descriptor")) (hm : MtR X id r) (ho : PE X o to) (ha : PA X (e :: es) t)
    (hbase : attributeBase o name X.env (eval o X.env) = eval o X.env := by rfl)
    (hfew : ((backTo cpos (starEach (e :: es) X.env)).all (fun x => !x.1) && (backToKw cpos (keywordEach [] X.env)).all (fun x => x.1.isSome) && decide ((e :: es).length + ([] : List Keyword).length + (if ([] : List Keyword).isEmpty then 0 else 1) < 30)) = true := by rfl)
    (hline : (apos.endLine == cpos.line) = true := by rfl) (hs : starEach (e :: es) X.env = (false, eval e X.env) :: starEach es X.env := by rfl) (hplain : (backTo cpos (starEach es X.env)).any (·.1) = false := by rfl) :
    PE X (.Call (.Attribute o name apos) (e :: es) [] cpos) (tBM K T r to t) := hK ▸ pe_bm pa slot hty hm ho ha hbase hfew hline hs hplain
end
end Lm


/-! the law's own start and end -/
namespace Lm
open PySem PySem.Spec PyProof.Rows L2
variable {c : Ct} {H H' H0 H1 H2 H3 : Hp} {O : List Addr} {σ : L2.St} {Γ Γ' Γ1 : List (Option Rs)}
variable {te ta tb tx tl : TE} {tt tu : TT} {tr : TA} {k ka kb kc : Kd} {d x y z : PyData} {i j : Int} {a b : Bool} {kv fz : Bool} {ds es : List PyData}
/-- law's: a list of at most 63 ints is handed in, True comes out -/
def spLaw (K : PySem.W.Frag) : Sp := fun vs H Q _ => ∃ (a : Addr) (ns : List Int), vs = [.ref a] ∧ SqL K H a (ns.map V.int) ∧ ns.length ≤ 63 ∧ ∀ H', Q (.bl true) H'
def spStream (K : PySem.W.Frag) : Sp := fun vs H Q _ => ∃ (a : Addr) (ns : List Int), vs = [.ref a] ∧ SqL K H a (ns.map V.int) ∧ ns.length ≤ 63 ∧ ∀ st l H', Same H H' → H st = none → Str1 K st l H' → Q (.ref st) H'
theorem run_law {K : PySem.W.Frag} {N : List Str} {t : TS} {vs : List V} {Q : VK} {E E' : XK} (hN : 2 ≤ N.length)
    (hs : ∀ st l, Sd (sc K st l) t (none :: some (.r (.ref st)) :: List.replicate (N.length - 2) none) (fun o => o = .rt .v (.bool true))) (h : spLaw K vs H Q E) :
    tSeq (tAsg (tCall (spStream K) [] E' (tCons (tVar 0) tNil)) (gName 1)) t { nx := fun _ H' => Q .non H', rt := Q } (start N vs) H := by
  obtain ⟨a, ns, rfl, hS, hl, hq⟩ := h
  have es : start N [.ref a] = some (.ref a) :: List.replicate (N.length - 1) none := rfl
  rw [es]
  refine ⟨.ref a, rfl, a, ns, rfl, hS, hl, fun st l H1 sm hst str => ?_⟩
  have j : Ji (sc K st l) H1 := fun st' l' e => by cases e; exact str
  refine hs st l H1 [] H1 _ _ ⟨Rr.same (by rw [mns_nil]; exact Same.refl _), by rw [mns_nil]; exact j, (fun _ h => nomatch h), (fun _ h => nomatch h), [], ?_, List.nodup_nil, (fun _ h => nomatch h)⟩ fun o po => ?_
  · have e2 : List.replicate (N.length - 1) (none : Option V) = none :: List.replicate (N.length - 2) none := by
      have : N.length - 1 = (N.length - 2) + 1 := by omega
      rw [this, List.replicate_succ]
    rw [e2]
    exact .cons (f := []) (fs := []) rfl (.cons (f := []) (fs := []) ⟨rfl, rfl⟩ (reps_none _))
  · subst po
    intro v H' _ rt
    have := rt.2.bl'
    subst this
    exact hq H'
/-! one of several answers -/
theorem n_bin {r : R2} {Pa Pb P : PyData → Prop} (ha : EvN c ta Γ ka Pa) (hb : EvN c tb Γ kb Pb)
    (hr : ∀ x y, Pa x → Pb y → ∃ z, P z ∧ ∀ H O v u (Q : VK), Bo c H v x → Bo c H u y → (∀ v' H2, Rr c H H2 → Bo c (mns H2 O) v' z → Q v' H2) → r v u H Q) : EvN c (tOp r ta tb) Γ .v P := fun H0 O H σ e Q q =>
  ha H0 O H σ e _ fun v x H1 px r1 s1 => hb H0 O H1 σ (e.on r1) _ fun u y H2 py r2 s2 => by
    obtain ⟨z, pz, hz⟩ := hr x y px py
    exact hz H2 O v u Q (Res.bo e (Res.on e r1 r2 s1)) (Res.bo (e.on r1) s2) fun v' H3 r3 b => q v' z H3 pz ((r1.tr r2).tr r3) b
/-- some int with Q -/
abbrev SomeI (Q : Int → Prop) : PyData → Prop := fun d => ∃ n : Int, d = .int n ∧ Q n
theorem n_add {Qa Qb Q : Int → Prop} (ha : EvN c ta Γ ka (SomeI Qa)) (hb : EvN c tb Γ kb (SomeI Qb)) (h : ∀ m n, Qa m → Qb n → Q (m + n)) : EvN c (tOp (rAddA c.K) ta tb) Γ .v (SomeI Q) :=
  n_bin ha hb fun x y ⟨m, hm, qm⟩ ⟨n, hn, qn⟩ => ⟨.int (m + n), ⟨_, rfl, h m n qm qn⟩, fun H O v u Q bv bu q => by
    subst hm; subst hn
    exact .inl ⟨m, n, bv.int', bu.int', q _ H Rr.rf (.int _)⟩⟩
theorem Ev.sm {Q : Int → Prop} (h : Ev c te Γ k (.int i)) (q : Q i) : EvN c te Γ k (SomeI Q) := h.n.imp fun d e => ⟨i, e, q⟩
/-- a comparison of drawn ints, as a test of either answer -/
theorem tn_cmp {r : R2} {Qa Qb : Int → Prop} (ha : EvN c ta Γ ka (SomeI Qa)) (hb : EvN c tb Γ kb (SomeI Qb))
    (hr : ∀ m n H (Q : VK), (∀ b, Q (.bl b) H) → r (.int m) (.int n) H Q) : EvTN c (tTest (tOp r ta tb)) Γ := fun H0 O H σ e Q q =>
  ha H0 O H σ e _ fun v x H1 ⟨m, hm, _⟩ r1 s1 => hb H0 O H1 σ (e.on r1) _ fun u y H2 ⟨n, hn, _⟩ r2 s2 => by
    subst hm; subst hn
    rw [(Res.bo e (Res.on e r1 r2 s1)).int', (Res.bo (e.on r1) s2).int']
    exact hr m n H2 _ fun b => ⟨b, rfl, q b H2 (r1.tr r2)⟩
theorem tn_eq {Qa Qb : Int → Prop} (ha : EvN c ta Γ ka (SomeI Qa)) (hb : EvN c tb Γ kb (SomeI Qb)) : EvTN c (tTest (tOp (rEqA c.K) ta tb)) Γ :=
  tn_cmp ha hb fun m n H Q q => .inl ⟨rfl, q _⟩
end Lm


/-! what the defs promise -/
namespace Lm
open PySem PySem.Spec PyProof.Rows L2
/-- is an int from lo to hi -/
def isIntD : PyData → Int → Int → Bool
  | .int i, lo, hi => decide (lo ≤ i) && decide (i ≤ hi)
  | _, _, _ => false
def isIntTy : PyData → Bool
  | .int _ => true
  | .bool _ => true
  | _ => false
def isBoolTy : PyData → Bool
  | .bool _ => true
  | _ => false
theorem kit_int (x : PyData) : kitB (tyD x) "int" = some (isIntTy x) := by cases x <;> (simp only [tyD, isIntTy, isBoolTy]; decide +kernel)
theorem kit_bool (x : PyData) : kitB (tyD x) "bool" = some (isBoolTy x) := by cases x <;> (simp only [tyD, isIntTy, isBoolTy]; decide +kernel)
def sp_is_integer (K : PySem.W.Frag) : Sp := spD K fun ds k d => ∃ x lo hi, ds = [x, .int lo, .int hi] ∧ k = .v ∧ d = .bool (isIntD x lo hi)


def sp_require (K : PySem.W.Frag) : Sp := spD K fun ds k d => ∃ nm, ds = [.bool true, .str nm] ∧ k = .v ∧ d = .none
/-- a tuple of ints from lo to hi -/
def areInts : PyData → Int → Int → Bool
  | .tuple ds, lo, hi => ds.all fun d => isIntD d lo hi
  | _, _, _ => false
def isTupTy : PyData → Bool
  | .tuple _ => true
  | _ => false
theorem kit_tuple (x : PyData) : kitB (tyD x) "tuple" = some (isTupTy x) := by cases x <;> (simp only [tyD, isTupTy]; decide +kernel)
/-- tuples are not too long -/
def SmallT (x : PyData) : Prop := ∀ es, x = .tuple es → es.length ≤ 1000000
def sp_are_integers (K : PySem.W.Frag) : Sp := spD K fun ds k d => ∃ x lo hi, ds = [x, .int lo, .int hi] ∧ SmallT x ∧ k = .v ∧ d = .bool (areInts x lo hi)
theorem isInt_int {d : PyData} {lo hi : Int} (h : isIntD d lo hi = true) : ∃ n, d = .int n ∧ lo ≤ n ∧ n ≤ hi := by
  cases d with
  | int i =>
    simp only [isIntD, Bool.and_eq_true, decide_eq_true_eq] at h
    exact ⟨i, rfl, h.1, h.2⟩
  | _ => simp [isIntD] at h
theorem areInts_ints {x : PyData} {lo hi : Int} (h : areInts x lo hi = true) : ∃ ns : List Int, x = .tuple (ns.map .int) ∧ ∀ n ∈ ns, lo ≤ n ∧ n ≤ hi := by
  cases x with
  | tuple ds =>
    have h' : (ds.all fun d => isIntD d lo hi) = true := h
    clear h
    induction ds with
    | nil => exact ⟨[], rfl, fun _ h => nomatch h⟩
    | cons d ds ih =>
      rw [List.all_cons, Bool.and_eq_true] at h'
      obtain ⟨n, rfl, h1, h2⟩ := isInt_int h'.1
      obtain ⟨ns, e, h3⟩ := ih h'.2
      refine ⟨n :: ns, by rw [PyData.tuple.inj e]; rfl, fun m hm => ?_⟩
      rcases List.mem_cons.mp hm with q | q
      · rw [q]; exact ⟨h1, h2⟩
      · exact h3 m q
  | _ => simp [areInts] at h
theorem areInts_of {ns : List Int} {lo hi : Int} (h : ∀ n ∈ ns, lo ≤ n ∧ n ≤ hi) : areInts (.tuple (ns.map .int)) lo hi = true := by
  show ((ns.map PyData.int).all fun d => isIntD d lo hi) = true
  rw [List.all_map, List.all_eq_true]
  intro n hn
  have := h n hn
  simp [isIntD, this.1, this.2]


def lenT : PyData → Nat
  | .tuple ds => ds.length
  | _ => 0
def intD : PyData → Int
  | .int i => i
  | _ => 0
def sumT : PyData → Int
  | .tuple ds => (ds.map intD).sum
  | _ => 0
theorem lenT_ints (ns : List Int) : lenT (.tuple (ns.map .int)) = ns.length := by simp [lenT]
theorem sumT_ints (ns : List Int) : sumT (.tuple (ns.map .int)) = ns.sum := by
  have : (intD ∘ PyData.int) = id := rfl
  simp [sumT, this]
def isAlloc (x : PyData) (n b : Int) : Bool := areInts x 0 b && (decide ((lenT x : Int) = n) && decide (sumT x = b))
def sp_is_allocation (K : PySem.W.Frag) : Sp := spD K fun ds k d => ∃ x n b, ds = [x, .int n, .int b] ∧ SmallT x ∧ k = .v ∧ d = .bool (isAlloc x n b)
def isBAsg (x : PyData) (v : Int) : Bool := areInts x 0 (v - 1) && decide ((lenT x : Int) ≤ 20)
def sp_is_bounded_assignment (K : PySem.W.Frag) : Sp := spD K fun ds k d => ∃ x v, ds = [x, .int v] ∧ SmallT x ∧ k = .v ∧ d = .bool (isBAsg x v)
def sp_check_assignment (K : PySem.W.Frag) : Sp := spD K fun ds k d => ∃ x nm, ds = [x, .str nm] ∧ SmallT x ∧ isBAsg x 5 = true ∧ k = .v ∧ d = .none
def sp_check_enough (K : PySem.W.Frag) : Sp := spD K fun ds k d => ∃ (v : Int) (ns : List Int), ds = [.int v, .tuple (ns.map .int)] ∧ mxD 0 ns + 1 ≤ v ∧ v ≤ 5 ∧ k = .v ∧ d = .none


/-- how often each variant occurs -/
def countsI (ns : List Int) (v : Int) : List Int := (upI 0 v.toNat).map fun i => (ns.count i : Int)
/-- the places of a variant -/
def placesI (ns : List Int) (v : Int) : List Int := (ns.zipIdx.filter fun p => decide (p.1 = v)).map fun p => ((p.2 : Nat) : Int)
theorem mxOf_le : ∀ (ns : List Int) (m b : Int), m ≤ b → (∀ n ∈ ns, n ≤ b) → mxOf m ns ≤ b
  | [], m, b, h, _ => h
  | n :: ns, m, b, h, g => by
    show mxOf (if n > m then n else m) ns ≤ b
    refine mxOf_le ns _ b ?_ fun x hx => g x (by simp [hx])
    split
    · exact g n (by simp)
    · exact h
theorem mxD_le {ns : List Int} {b : Int} (h0 : 0 ≤ b) (h : ∀ n ∈ ns, n ≤ b) : mxD 0 ns ≤ b := by
  cases ns with
  | nil => exact h0
  | cons n ns => exact mxOf_le ns n b (h n (by simp)) fun x hx => h x (by simp [hx])
/-- an assignment of at most 20 buckets to v variants -/
structure Asg (ns : List Int) (v : Int) : Prop where
  len : ns.length ≤ 20
  rng : ∀ n ∈ ns, 0 ≤ n ∧ n < v
theorem Asg.bAsg {ns : List Int} {v w : Int} (h : Asg ns v) (hw : v ≤ w) : isBAsg (.tuple (ns.map .int)) w = true := by
  unfold isBAsg
  rw [areInts_of fun n hn => ⟨(h.rng n hn).1, by have := (h.rng n hn).2; omega⟩, lenT_ints]
  have := h.len
  simp
  omega
theorem small_ints {ns : List Int} (h : ns.length ≤ 1000000) : SmallT (.tuple (ns.map .int)) := fun es e => by
  rw [← PyData.tuple.inj e]
  simpa using h
theorem Asg.small {ns : List Int} {v : Int} (h : Asg ns v) : SmallT (.tuple (ns.map .int)) := small_ints (by have := h.len; omega)
def sp_allocation_of (K : PySem.W.Frag) : Sp := spD K fun ds k d => ∃ (ns : List Int) (v : Int), ds = [.tuple (ns.map .int), .int v] ∧ Asg ns v ∧ 1 ≤ v ∧ v ≤ 5 ∧ k = .v ∧ d = .tuple ((countsI ns v).map .int)
def sp_buckets_of (K : PySem.W.Frag) : Sp := spD K fun ds k d => ∃ (ns : List Int) (v : Int), ds = [.tuple (ns.map .int), .int v] ∧ Asg ns 5 ∧ 0 ≤ v ∧ v ≤ 4 ∧ k = .o ∧ d = .list ((placesI ns v).map .int)


def sp__law_next (K : PySem.W.Frag) : Sp := spS K fun ds k P => ∃ m : Int, ds = [.int m] ∧ 0 < m ∧ m < 1073741824 ∧ k = .v ∧ P = fun d => ∃ n : Int, d = .int n ∧ 0 ≤ n ∧ n < m
theorem Str1.put {K : PySem.W.Frag} {st l : Addr} {H : Hp} {ns : List Int} {x k : Int} (h2 : H l = some (.lst (ns.map V.int))) (h3 : l ≠ st) (h4 : 0 ≤ k) : Str1 K st l (upd H st (.lst [.ref l, .int x, .int k])) :=
  ⟨ns, x, k, upd_same, by rw [upd_ne h3]; exact h2, h3, h4⟩


/-! the law's helpers -/

def sp__law_stream := spStream
/-- data that _law_equal may look at, to some depth -/
inductive EqOk : Nat → PyData → Prop
  | non {n} : EqOk n .none
  | bl {n} (b : Bool) : EqOk n (.bool b)
  | int {n} (i : Int) : EqOk n (.int i)
  | str {n} (s : Str) : EqOk n (.str s)
  | lst {n} {xs : List PyData} : xs.length ≤ 1000000 → (∀ x ∈ xs, EqOk n x) → EqOk (n + 1) (.list xs)
  | tup {n} {xs : List PyData} : xs.length ≤ 1000000 → (∀ x ∈ xs, EqOk n x) → EqOk (n + 1) (.tuple xs)
theorem EqOk.ints {n : Nat} {ns : List Int} (h : ns.length ≤ 1000000) : EqOk (n + 1) (.tuple (ns.map .int)) := .tup (by simpa using h) fun x hx => by
  obtain ⟨i, _, rfl⟩ := List.mem_map.mp hx
  exact .int i
theorem EqOk.up {n : Nat} {x : PyData} (h : EqOk n x) : ∀ {m : Nat}, n ≤ m → EqOk m x := by
  induction h with
  | non => intro m _; exact .non
  | bl b => intro m _; exact .bl b
  | int i => intro m _; exact .int i
  | str s => intro m _; exact .str s
  | lst hl _ ih =>
    intro m hm
    cases m with
    | zero => omega
    | succ m => exact .lst hl fun x hx => ih x hx (by omega)
  | tup hl _ ih =>
    intro m hm
    cases m with
    | zero => omega
    | succ m => exact .tup hl fun x hx => ih x hx (by omega)


theorem upI0 (v : Nat) : upI 0 v = (List.range v).map fun (i : Nat) => (i : Int) := by
  unfold upI
  apply List.map_congr_left
  intro i _
  omega
theorem upI_count {v : Nat} {n : Int} (h0 : 0 ≤ n) (h1 : n < v) : (upI 0 v).count n = 1 := by
  obtain ⟨m, rfl⟩ := Int.eq_ofNat_of_zero_le h0
  have hm : m < v := by omega
  rw [upI0, List.count_eq_countP, List.countP_map]
  have e : ((fun x : Int => x == (m : Int)) ∘ fun (i : Nat) => (i : Int)) = fun i : Nat => i == m := by
    funext i
    show ((i : Int) == (m : Int)) = (i == m)
    rw [Bool.eq_iff_iff]
    simp
    omega
  rw [e]
  have : List.countP (fun i => i == m) (List.range v) = (List.range v).count m := rfl
  rw [this, List.nodup_range.count]
  simp [hm]
theorem count_sum (v : Nat) : ∀ ns : List Int, (∀ n ∈ ns, 0 ≤ n ∧ n < (v : Int)) → ((upI 0 v).map fun i => (ns.count i : Int)).sum = ns.length := by
  intro ns
  induction ns with
  | nil =>
    intro _
    generalize upI 0 v = l
    induction l with
    | nil => rfl
    | cons a l ih =>
      rw [List.map_cons, List.sum_cons, ih]
      rfl
  | cons n ns ih =>
    intro hv
    have ih' := ih fun m hm => hv m (by simp [hm])
    have hn := hv n (by simp)
    have key : ∀ l : List Int, (l.map fun i => ((n :: ns).count i : Int)).sum = (l.map fun i => (ns.count i : Int)).sum + l.count n := by
      intro l
      induction l with
      | nil => rfl
      | cons a l ihl =>
        rw [List.map_cons, List.sum_cons, List.map_cons, List.sum_cons, ihl, List.count_cons, List.count_cons]
        by_cases h : n = a
        · subst h
          rw [beq_self_eq_true, if_pos rfl]
          omega
        · rw [beq_eq_false_iff_ne.mpr h, beq_eq_false_iff_ne.mpr (fun e => h e.symm)]
          simp
          omega
    rw [key, ih', upI_count hn.1 hn.2]
    simp
end Lm


/-! more rules: a list unpacked, tuple.index of an int, the number of a tuple's different ints, list.pop(i) -/
namespace Lm
open PySem PySem.Spec PyProof.Rows L2
section
variable {prog : Program} {w : World} {A : Around} {E : Value → Shared → Prop} {s : Shared}
theorem drawL {it t : Addr} {items : Array Value} (hne : t ≠ it) : ∀ (n i : Nat) (s : Shared) (Q : List Value → Shared → Prop), s.heap.IsListIter it t i → s.heap.IsList t items → i + n ≤ items.size →
    (∀ h', h'.IsListIter it t (i + n) → Heap.SameBut it s.heap h' → Q ((items.toList.drop i).take n) { s with heap := h' }) → wpAny (model prog w) A (draw (.ref it) n) Q E s
  | 0, i, s, Q, hit, _, _, hQ => by
    show wpAny _ _ (pure []) Q E s
    exact wpAny_pure (by simpa using hQ s.heap hit (Heap.SameBut.refl ..))
  | n + 1, i, s, Q, hit, ht, hle, hQ => by
    have hlt : i < items.size := by omega
    show wpAny _ _ (pyNext (.ref it) >>= _) Q E s
    refine wpAny_bind (wpAny_pyNext_list_item hit ht (x := items[i]) (by simp [hlt]) fun h₁ hit₁ hs₁ => ?_)
    refine wpAny_bind (wpAny_holding (drawL hne n (i + 1) _ _ hit₁ (ht.extBut hs₁.extBut hne) (by omega) fun h₂ hit₂ hs₂ => wpAny_pure ?_))
    have e1 : items.toList.drop i = items[i] :: items.toList.drop (i + 1) := by simp [List.drop_eq_getElem_cons, hlt]
    have e2 := hQ h₂ (by rw [show i + (n + 1) = i + 1 + n by omega]; exact hit₂) (hs₁.trans hs₂)
    rw [e1, List.take_succ_cons] at e2
    exact e2
theorem unpackL {t : Addr} {items : Array Value} {Q : List Value → Shared → Prop} (hh : A.handled = none) (ht : s.heap.IsList t items)
    (hQ : ∀ h', Heap.ExtBut s.heap.objs.size s.heap h' → Q items.toList { s with heap := h' }) : wpAny (model prog w) A (unpackItems (.ref t) items.size none) Q E s := by
  have hlt : t ≠ s.heap.objs.size := by obtain ⟨o, ho, _⟩ := ht; exact Nat.ne_of_lt (Heap.lt_size ho)
  unfold unpackItems
  refine wpAny_bind ?_
  · unfold notIterableAtAll
    refine wpAny_bind (wpAny_specialOf ht.typeIs F.slot_list_iter.lookup ?_)
    refine wpAny_pure ?_
    simp only [Bool.false_eq_true, if_false]
    refine wpAny_bind (wpAny_holding (wpAny_pyIter_list ht ?_))
    refine wpAny_bind (wpAny_holding (drawL hlt items.size 0 _ _ ⟨_, Heap.get?_push_size _ rfl, rfl, rfl⟩ (ht.push _) (by omega) fun h₁ hit₁ hs₁ => ?_))
    have e1 : List.take items.size (List.drop 0 items.toList) = items.toList := by
      rw [List.drop_zero]; exact List.take_of_length_le (by simp)
    rw [e1, if_neg (by simp)]
    have ht₁ : h₁.IsList t items := (ht.push _).extBut hs₁.extBut hlt
    refine wpAny_bind (wpAny_holding (wpAny_pyNext_list_end hh hit₁ ht₁ (by simp) fun h₂ he₂ => ?_))
    simp only [Option.isSome_none, Bool.false_eq_true, if_false]
    exact wpAny_pure (hQ h₂ fun b o hb e => he₂ b o hb (hs₁.extBut b o hb (Heap.get?_push_of_some _ e)))
theorem assignTupL {env : PySem.Env} {elts : List Expr} {x1} {pos : Pos} {t : Addr} {items : Array Value} {Q : Unit → Shared → Prop} (hh : A.handled = none) (ht : s.heap.IsList t items)
    (hn : (assignEach elts env).length = items.size) (hstar : (assignEach elts env).findIdx? (·.1) = none)
    (h : ∀ h', Heap.ExtBut s.heap.objs.size s.heap h' → wpAny (model prog w) A (assignInOrder ((assignEach elts env).map (·.2)) items.toList) Q E { s with heap := h' }) :
    wpAny (model prog w) A (assign (.Tuple elts x1 pos) env (.ref t)) Q E s := by
  rw [arm_assign_Tuple]
  refine wpAny_bind (wpAny_standAt ?_)
  unfold unpack
  rw [hn, hstar]
  exact wpAny_bind (wpAny_holding (unpackL hh ht h))
end
/-- (a, b, ..) = a tuple or a list of that length -/
def gTupA (K : PySem.W.Frag) (n : Nat) (t : TGs) : TG := fun v σ H Q => ∃ a xs, v = .ref a ∧ (SqT K H a xs ∨ SqL K H a xs) ∧ xs.length = n ∧ t xs σ H Q
section
variable {X : Cx}
theorem pg_tupA {es : List Expr} {k : Nat} {t : TGs} {n : Nat} {pos : Pos} (hc : X.calm = true) (h : PGs X es t)
    (hn : (assignEach es X.env).length = n := by rfl) (hst : (assignEach es X.env).findIdx? (·.1) = none := by rfl) : PG X (.Tuple es k pos) (gTupA X.K n t) := by
  refine ⟨fun pins s σ H v u Q I r hw => ?_⟩
  obtain ⟨a, xs, e1, hq, hl, hw⟩ := hw
  rcases hq with hq | hq
  · exact (pg_tup hc h hn hst).run pins s σ H v u Q I r ⟨a, xs, e1, hq, hl, hw⟩
  · subst e1
    cases r
    obtain ⟨its, rv, ht, hz⟩ := I.list hq
    refine assignTupL (I.ok.hd hc) ht.isList (by simp [hn, ← hl, rv.length]) hst fun h' hx => ?_
    have I1 : Inv X pins σ H { s with heap := h' } := I.kept (t' := s.toks) fun b o e => hx b o (Nat.ne_of_lt (Heap.lt_size e)) e
    exact h.run pins _ σ H xs _ Q I1 (by simpa using rv) hw
/-- how many different ints a tuple has -/
def tLenSetT (K : PySem.W.Frag) (ta : TE) : TE := fun σ H Q => ta σ H fun x H1 => ∃ (l : Addr) (ns ks : List Int), x = .ref l ∧ SqT K H1 l (ns.map V.int) ∧ ns.length ≤ 4000 ∧ ks.Nodup ∧ (∀ k, k ∈ ks ↔ k ∈ ns) ∧ Q (.int (ks.length : Nat)) H1
theorem length_sub : ∀ {as bs : List Int}, as.Nodup → (∀ k, k ∈ as → k ∈ bs) → as.length ≤ bs.length
  | [], _, _, _ => Nat.zero_le _
  | a :: as, bs, ha, h => by
    have hm : a ∈ bs := h a (by simp)
    obtain ⟨hna, hnd⟩ := List.nodup_cons.mp ha
    have := length_sub (bs := bs.erase a) hnd fun k q => (List.mem_erase_of_ne fun (z : k = a) => hna (by rw [← z]; exact q)).mpr (h k (by simp [q]))
    rw [List.length_erase_of_mem hm] at this
    have : 0 < bs.length := List.length_pos_of_mem hm
    simp only [List.length_cons]
    omega
theorem same_length {as bs : List Int} (ha : as.Nodup) (hb : bs.Nodup) (h : ∀ k, k ∈ as ↔ k ∈ bs) : as.length = bs.length :=
  Nat.le_antisymm (length_sub ha fun k q => (h k).mp q) (length_sub hb fun k q => (h k).mpr q)
theorem pe_lenSetT {a : Expr} {ta : TE} {p p2 q pos : Pos} (hg : Gl X "len") (hm : X.mg "len" = none) (hg2 : Gl X "set") (hm2 : X.mg "set" = none) (ha : PE X a ta) (hc : X.calm = true := by rfl)
    (na : starEach [a] X.env = (false, eval a X.env) :: starEach [] X.env := by rfl) : PE X (.Call (.Name "len" p) [.Call (.Name "set" p2) [a] [] q] [] pos) (tLenSetT X.K ta) := by
  refine ⟨fun pins s σ H Q I h => ?_⟩
  refine Call_ (ld_blt I hg hm boot_len (PyProof.Rows.callWith_builtin1 (PyProof.Rows.args_cons ?_ rfl) rfl rfl))
  refine Call_ (ld_blt I hg2 hm2 boot_set ?_)
  refine PyProof.Rows.callWith_type1 (PyProof.Rows.args_cons (thn (ha.run pins s σ H _ I h) fun v s1 ⟨x, H1, I1, r1, q1⟩ => PyProof.Rows.args_nil ?_) na) na rfl
  obtain ⟨l, ns, ks, rfl, hq, hl, hnd, hks, q1⟩ := q1
  cases r1
  obtain ⟨its, r, pl, hz⟩ := I1.tuple hq
  refine call_set_tupI ns (I1.ok.hd hc) (show s1.heap.IsTuple l its.toArray from pl) (by simpa using ints_of_vals r) (by unfold scanBound; omega) fun h' tk c hS hc' hk => ?_
  refine PyProof.Rows.args_nil ?_
  obtain ⟨o, es, ep, t, ho, hex, hd, _, hn, hmem, _, hf, hsz, _⟩ := hS
  have I2 : Inv X pins σ H1 { s1 with heap := h', toks := tk } := I1.kept fun b o e => hk b o e
  have ec : es.size = ks.length := by
    rw [← Array.length_toList, ← List.length_map (f := keyOf)]
    refine same_length hn hnd fun k => ?_
    rw [← hmem k, hks k]
    simp
  have hle : ks.length ≤ 4000 := by omega
  exact call_len_set ho hex hd hf (by omega) ⟨.int (ks.length : Nat), H1, I2.tok _, ⟨_, by rw [ec]⟩, q1⟩
end
section
variable {X : Cx} {K : PySem.W.Frag} (hK : X.K = K)
include hK
theorem k_tupA {es : List Expr} {k : Nat} {t : TGs} {n : Nat} {pos : Pos} (hc : X.calm = true) (h : PGs X es t)
    (hn : (assignEach es X.env).length = n := by rfl) (hst : (assignEach es X.env).findIdx? (·.1) = none := by rfl) : PG X (.Tuple es k pos) (gTupA K n t) := hK ▸ pg_tupA hc h hn hst
theorem k_lenSet {a : Expr} {ta : TE} {p p2 q pos : Pos} (hg : Gl X "len") (hm : X.mg "len" = none) (hg2 : Gl X "set") (hm2 : X.mg "set" = none) (ha : PE X a ta) (hc : X.calm = true := by rfl)
    (na : starEach [a] X.env = (false, eval a X.env) :: starEach [] X.env := by rfl) : PE X (.Call (.Name "len" p) [.Call (.Name "set" p2) [a] [] q] [] pos) (tLenSetT K ta) := hK ▸ pe_lenSetT hg hm hg2 hm2 ha hc na
end
end Lm


namespace Lm
open PySem PySem.Spec PyProof.Rows L2
variable {c : Ct} {H H' H0 H1 H2 H3 : Hp} {O : List Addr} {σ : L2.St} {Γ Γ' Γ1 : List (Option Rs)}
variable {te ta tb tx tl : TE} {tt tu : TT} {tr : TA} {k ka kb kc : Kd} {d x y z : PyData} {i j : Int} {a b : Bool} {kv fz : Bool} {ds es : List PyData}
/-! ### zip of two tuples -/
def zipD (ds es : List PyData) : List Im := (ds.zip es).map fun p => .t [.d p.1, .d p.2]
theorem walk_zipT {K : PySem.W.Frag} {p q : Addr} {xs ys : List V} {n : Nat} (hn : n = min xs.length ys.length) : Walk (RZ.ItzT K p q) n (fun H => SqT K H p xs ∧ SqT K H q ys) (YPair (fun i => xs[i]?) (fun i => ys[i]?)) where
  goes := fun i _ hi w => ⟨xs, ys, xs[i]'(by omega), ys[i]'(by omega), w.1, w.2, List.getElem?_eq_getElem (by omega), List.getElem?_eq_getElem (by omega)⟩
  stops := fun _ w => ⟨xs, ys, w.1, w.2, by omega⟩
  yields := fun i H v H' _ w ⟨T, x, z, h1, h2, h3, h4, h5⟩ => ⟨T, x, z, h1, h2, h3, h4 xs w.1, h5 ys w.2⟩
theorem i_zipT (h : EvA c tr Γ true [.tuple ds, .tuple es]) : EvI c (RZ.iZipA c.K tr) Γ true (zipD ds es) := fun H0 O H σ e R q =>
  h H0 O H σ e _ fun vs H1 r s => by
    obtain ⟨x, y, rfl, b1, b2⟩ := (BoAll.vm s).two
    obtain ⟨p, xs, rfl, sl, al⟩ := b1.tup'
    obtain ⟨p2, ys, rfl, sl2, al2⟩ := b2.tup'
    refine ⟨p, p2, xs, ys, rfl, .inr ⟨(sqT_same mns_same sl).sq, (sqT_same mns_same sl2).sq, q _ H1 r ⟨(e.on r).j, ?_⟩⟩⟩
    have hl : (zipD ds es).length = min xs.length ys.length := by rw [al.len, al2.len]; simp [zipD]
    refine (walk_zipT hl).mono (fun H h => ⟨(h.tup (e.on r).j sl).sq, (h.tup (e.on r).j sl2).sq⟩) fun i H v H' hi g w => ?_
    obtain ⟨T, u1, u2, rfl, hT, rfl, g1, g2⟩ := w
    obtain ⟨d1, hd1, bd1⟩ := al.get g1
    obtain ⟨d2, hd2, bd2⟩ := al2.get g2
    have sm : Same H (upd H T (.tup [u1, u2])) := fun b o z => by rw [upd_ne (ne_of_none z hT)]; exact z
    refine ⟨sm, .t [.d d1, .d d2], ?_, .tup (.inl (.inl upd_same)) (.cons (.leaf (.inr ⟨rfl, bd1⟩)) (.cons (.leaf (.inr ⟨rfl, bd2⟩)) .nil))⟩
    have : (ds.zip es)[i]? = some (d1, d2) := by rw [List.getElem?_zip_eq_some]; exact ⟨hd1, hd2⟩
    simp [zipD, this]
def zipI (p : Int × Int) : Im := .t [.d (.int p.1), .d (.int p.2)]
theorem i_zipTI {ns ms : List Int} (h : EvA c tr Γ true [.tuple (ns.map .int), .tuple (ms.map .int)]) : EvI c (RZ.iZipA c.K tr) Γ true ((ns.zip ms).map zipI) := by
  have e : zipD (ns.map .int) (ms.map .int) = (ns.zip ms).map zipI := by
    unfold zipD
    rw [List.zip_map, List.map_map]
    rfl
  exact e ▸ i_zipT h
/-! ### calls -/
theorem e_max2 (ha : Ev c ta Γ ka (.int i)) (hb : Ev c tb Γ kb (.int j)) : Ev c (tCB (fun xs H Q => ∃ i j, xs = [V.int i, V.int j] ∧ Q (.int (if j > i then j else i)) H) (tCons ta (tCons tb tNil))) Γ .v (.int (if j > i then j else i)) :=
  d_cb (a_cons ha (a_cons hb a_nil)) fun H O vs Q s q => by
    obtain ⟨y, z, rfl, b1, b2⟩ := s.two
    exact ⟨i, j, by rw [b1.int', b2.int'], q _ H Rr.rf (.int _)⟩
theorem e_lenSet {ns ks : List Int} (h : Ev c ta Γ ka (.tuple (ns.map .int))) (hl : ns.length ≤ 4000) (hn : ks.Nodup) (hk : ∀ k, k ∈ ks ↔ k ∈ ns) : Ev c (tLenSetT c.K ta) Γ .v (.int (ks.length : Nat)) := fun H0 O H σ e Q q =>
  h H0 O H σ e _ fun v H1 r1 s1 => by
    obtain ⟨p, xs, rfl, s, al⟩ := (Res.bo e s1).tup'
    have := al.ints
    subst this
    exact ⟨p, ns, ks, rfl, s.sq, hl, hn, hk, q _ H1 r1 (.int _)⟩
/-! ### unpacking -/
theorem q_unp {n : Nat} {gs : TGs} {u : TS} {P : Out → Prop} (Pd : PyData → Prop) (h : EvN c te Γ k Pd)
    (p : ∀ d, Pd d → ∃ ds Γ' js, (d = .tuple ds ∨ d = .list ds) ∧ flatAll ds = true ∧ ds.length = n ∧ EvGs c gs (ds.map Im.d) Γ Γ' js ∧ Sd c u Γ' P) : Sd c (tSeq (tAsg te (gTupA c.K n gs)) u) Γ P := fun H0 O H σ D e s =>
  h H0 O H σ e _ fun v d H2 pd r rs => by
    obtain ⟨ds, Γ', js, hd, hf, hn, hg, hu⟩ := p d pd
    have e2 := e.on r
    have key : ∃ a xs, v = .ref a ∧ (SqT c.K H2 a xs ∨ SqL c.K H2 a xs) ∧ BoAll c H2 xs ds := by
      rcases hd with rfl | rfl
      · obtain ⟨a, xs, rfl, sl, al⟩ := (Res.bo e rs).tup'
        exact ⟨a, xs, rfl, .inl sl.sq, al⟩
      · obtain ⟨a, xs, rfl, _, sl, al⟩ := (Res.bo e rs).lst'
        exact ⟨a, xs, rfl, .inr sl, al⟩
    obtain ⟨a, xs, rfl, sl, al⟩ := key
    exact ⟨a, xs, rfl, sl, al.len.trans hn, hg H0 O H2 σ H2 false xs e2 e2.jH Rr.rf (fun z => nomatch z) (.ofFlat hf al) _ fun σ' e' _ => hu H0 O H2 σ' D e' s⟩
end Lm


/-! what more defs promise: allocations, orders -/
namespace Lm
open PySem PySem.Spec PyProof.Rows L2
/-- an allocation of b buckets to v variants -/
structure Alc (ns : List Int) (v b : Int) : Prop where
  len : (ns.length : Int) = v
  sum : ns.sum = b
  nn : ∀ n ∈ ns, 0 ≤ n
theorem sum_nn : ∀ {ns : List Int}, (∀ n ∈ ns, 0 ≤ n) → 0 ≤ ns.sum
  | [], _ => by simp
  | n :: ns, h => by
    have h1 := sum_nn (ns := ns) fun m hm => h m (by simp [hm])
    have h2 := h n (by simp)
    simp only [List.sum_cons]; omega
theorem le_sum : ∀ {ns : List Int}, (∀ n ∈ ns, 0 ≤ n) → ∀ m ∈ ns, m ≤ ns.sum
  | [], _, m, hm => nomatch hm
  | n :: ns, h, m, hm => by
    have h1 := sum_nn (ns := ns) fun m hm => h m (by simp [hm])
    have h2 := h n (by simp)
    simp only [List.sum_cons]
    rcases List.mem_cons.mp hm with q | q
    · rw [q]; omega
    · have := le_sum (ns := ns) (fun m hm => h m (by simp [hm])) m q
      omega
theorem Alc.le {ns : List Int} {v b : Int} (h : Alc ns v b) : ∀ n ∈ ns, n ≤ b := fun n hn => h.sum ▸ le_sum h.nn n hn
theorem Alc.b0 {ns : List Int} {v b : Int} (h : Alc ns v b) : 0 ≤ b := h.sum ▸ sum_nn h.nn
theorem Alc.isAlloc {ns : List Int} {v b : Int} (h : Alc ns v b) : isAlloc (.tuple (ns.map .int)) v b = true := by
  unfold Lm.isAlloc
  rw [areInts_of fun n hn => ⟨h.nn n hn, h.le n hn⟩, lenT_ints, sumT_ints, h.len, h.sum]
  simp
def sp_is_bounded_allocation (K : PySem.W.Frag) : Sp := spD K fun ds k d => ∃ (ns : List Int) (v b : Int), ds = [.tuple (ns.map .int)] ∧ Alc ns v b ∧ 1 ≤ v ∧ v ≤ 5 ∧ b ≤ 20 ∧ k = .v ∧ d = .bool true
def sp_check_allocation (K : PySem.W.Frag) : Sp := spD K fun ds k d => ∃ (ns : List Int) (v b : Int) (nm : Str), ds = [.tuple (ns.map .int), .str nm] ∧ Alc ns v b ∧ 1 ≤ v ∧ v ≤ 5 ∧ b ≤ 20 ∧ k = .v ∧ d = .none
def sp_check_alike (K : PySem.W.Frag) : Sp := spD K fun ds k d => ∃ (ms ns : List Int) (v b : Int) (nm : Str), ds = [.tuple (ms.map .int), .tuple (ns.map .int), .str nm] ∧ Alc ms v b ∧ Alc ns v b ∧ v ≤ 1000 ∧ k = .v ∧ d = .none
/-- what goes over from one to the other -/
def trI (ns ms : List Int) : Int := ((ns.zip ms).map fun p => if 0 > p.1 - p.2 then 0 else p.1 - p.2).sum
def sp_transfer (K : PySem.W.Frag) : Sp := spD K fun ds k d => ∃ (ns ms : List Int) (v b : Int), ds = [.tuple (ns.map .int), .tuple (ms.map .int)] ∧ Alc ns v b ∧ Alc ms v b ∧ 1 ≤ v ∧ v ≤ 5 ∧ b ≤ 20 ∧ k = .v ∧ d = .int (trI ns ms)
/-- the numbers from 0 to m - 1, each once -/
structure IsOrd (ns : List Int) (m : Int) : Prop where
  len : (ns.length : Int) = m
  nd : ns.Nodup
  rng : ∀ n ∈ ns, 0 ≤ n ∧ n < m
def placedI (ns os : List Int) : List Int := (upI 0 os.length).map fun i => ns.getD (os.idxOf i) 0
/-! orders: every number has its place -/
theorem nodup_inj {ns : List Int} (h : ns.Nodup) {i j : Nat} (hi : i < ns.length) (hj : j < ns.length) (e : ns[i] = ns[j]) : i = j := by
  have p := List.pairwise_iff_getElem.mp h
  rcases Nat.lt_trichotomy i j with q | q | q
  · exact absurd e (p i j hi hj q)
  · exact q
  · exact absurd e.symm (p j i hj hi q)
theorem perm_sum {as bs : List Int} (h : as.Perm bs) : as.sum = bs.sum := by
  induction h with
  | nil => rfl
  | cons x _ ih => simp [ih]
  | swap x y l => simp only [List.sum_cons]; omega
  | trans _ _ ih1 ih2 => exact ih1.trans ih2
theorem mem_upI {n : Nat} {i : Int} : i ∈ upI 0 n ↔ 0 ≤ i ∧ i < n := by
  unfold upI
  rw [List.mem_map]
  constructor
  · rintro ⟨m, hm, rfl⟩
    have := List.mem_range.mp hm
    omega
  · rintro ⟨h0, h1⟩
    exact ⟨i.toNat, List.mem_range.mpr (by omega), by omega⟩
theorem nodup_upI (n : Nat) : (upI 0 n).Nodup := by
  rw [upI0]
  exact List.Pairwise.map _ (fun a b h e => h (Int.ofNat.inj e)) List.nodup_range
theorem IsOrd.mem {ns : List Int} {m : Int} (h : IsOrd ns m) {i : Int} (h0 : 0 ≤ i) (h1 : i < m) : i ∈ ns := by
  refine Decidable.byContradiction fun hn => ?_
  have h2 : (i :: ns).length ≤ (upI 0 ns.length).length := length_sub (List.nodup_cons.mpr ⟨hn, h.nd⟩) fun k hk => by
    have hl := h.len
    rcases List.mem_cons.mp hk with q | q
    · rw [q, mem_upI]; omega
    · rw [mem_upI]; have := h.rng k q; omega
  simp [upI] at h2
  omega
theorem IsOrd.perm {ns : List Int} {m : Int} (h : IsOrd ns m) : (upI 0 ns.length).Perm ns := by
  refine (List.perm_iff_count.mpr fun i => ?_)
  by_cases q : 0 ≤ i ∧ i < (ns.length : Int)
  · rw [upI_count q.1 q.2, h.nd.count]
    rw [if_pos (h.mem q.1 (by have := h.len; omega))]
  · rw [List.count_eq_zero_of_not_mem (fun z => q (mem_upI.mp z)), List.count_eq_zero_of_not_mem (fun z => q (by have := h.rng i z; have := h.len; omega))]
theorem IsOrd.idx {ns : List Int} {m : Int} (h : IsOrd ns m) {i : Int} (h0 : 0 ≤ i) (h1 : i < m) : ∃ hj : ns.idxOf i < ns.length, ns[ns.idxOf i]? = some i ∧ ∀ n, n < ns.idxOf i → ns[n]? ≠ some i := by
  have hj : ns.idxOf i < ns.length := List.idxOf_lt_length_of_mem (h.mem h0 h1)
  refine ⟨hj, ?_, fun n hn e => ?_⟩
  · rw [List.getElem?_eq_getElem hj, List.getElem_idxOf hj]
  · have hl : n < ns.length := by omega
    have e1 : ns[n] = i := by rw [List.getElem?_eq_getElem hl] at e; exact Option.some.inj e
    have e2 : ns[ns.idxOf i] = i := List.getElem_idxOf hj
    have := nodup_inj h.nd hl hj (e1.trans e2.symm)
    omega
theorem IsOrd.idxOf_get {ns : List Int} {m : Int} (h : IsOrd ns m) {j : Nat} (hj : j < ns.length) : ns.idxOf ns[j] = j := by
  have hm : ns[j] ∈ ns := List.getElem_mem hj
  have hl : ns.idxOf ns[j] < ns.length := List.idxOf_lt_length_of_mem hm
  exact nodup_inj h.nd hl hj (List.getElem_idxOf hl)
/-- a sum over the placed is the sum over the old -/
theorem IsOrd.sums {os : List Int} {m : Int} (h : IsOrd os m) (f : Nat → Int) : ((upI 0 os.length).map fun i => f (os.idxOf i)).sum = ((List.range os.length).map f).sum := by
  have e : os.map (fun i => f (os.idxOf i)) = (List.range os.length).map f := by
    apply List.ext_getElem
    · simp
    · intro j h1 h2
      simp only [List.getElem_map, List.getElem_range]
      rw [h.idxOf_get (by simpa using h1)]
  rw [← e]
  exact perm_sum (h.perm.map _)
theorem sum_range {ns : List Int} : ((List.range ns.length).map fun j => ns.getD j 0).sum = ns.sum := by
  congr 1
  apply List.ext_getElem
  · simp
  · intro j h1 h2
    have h2' : j < ns.length := h2
    simp [List.getD_eq_getElem?_getD, List.getElem?_eq_getElem h2']
theorem IsOrd.alc {ns os : List Int} {v b : Int} (h : Alc ns v b) (o : IsOrd os v) : Alc (placedI ns os) v b := by
  have hl : os.length = ns.length := by have := h.len; have := o.len; omega
  refine ⟨?_, ?_, ?_⟩
  · simp [placedI, upI, o.len]
  · unfold placedI
    rw [o.sums fun j => ns.getD j 0, hl, sum_range, h.sum]
  · intro n hn
    obtain ⟨i, _, rfl⟩ := List.mem_map.mp hn
    rw [List.getD_eq_getElem?_getD]
    cases q : ns[os.idxOf i]? with
    | none => exact Int.le_refl _
    | some x => exact h.nn x (List.mem_of_getElem? q)
def t0 (a b : Int) : Int := if 0 > a - b then 0 else a - b
theorem trI_range {ns ms : List Int} (h : ns.length = ms.length) : trI ns ms = ((List.range ns.length).map fun j => t0 (ns.getD j 0) (ms.getD j 0)).sum := by
  unfold trI
  congr 1
  apply List.ext_getElem
  · simp [h]
  · intro j h1 h2
    have h3 : j < ns.length := by simpa using h2
    have h4 : j < ms.length := by omega
    simp [t0, List.getD_eq_getElem?_getD, List.getElem?_eq_getElem h3, List.getElem?_eq_getElem h4]
end Lm


namespace Lm
open PySem PySem.Spec PyProof.Rows L2
section
variable {c : Ct} {H H' H0 H1 H2 H3 : Hp} {O : List Addr} {σ : L2.St} {Γ Γ' Γ1 : List (Option Rs)} {te : TE} {k : Kd} {i : Int}
end
theorem eqvT (ns ms : List Int) : PyData.eqv (.tuple (ns.map .int)) (.tuple (ms.map .int)) = decide (ns = ms) := by
  simp only [PyData.eqv]
  exact PySem.W.ked_eqvAll ns ms
theorem shapedT (ns : List Int) : SeqAt.shaped (.tuple (ns.map .int)) = true := by
  simp [SeqAt.shaped, PyData.canLay0, PyData.canLayAll0, PyData.depth, PyData.depthAll, PySem.W.ke_canLayAll0, PySem.W.ke_depthAll]
section
variable {c : Ct} {Γ : List (Option Rs)} {ta tb : TE} {ka kb : Kd}
theorem e_eqTT {ns ms : List Int} (ha : Ev c ta Γ ka (.tuple (ns.map .int))) (hb : Ev c tb Γ kb (.tuple (ms.map .int))) : Ev c (tOp (rEqA c.K) ta tb) Γ .v (.bool (decide (ns = ms))) :=
  (e_eqD ha hb (shapedT _) (shapedT _)).to (by rw [eqvT])
end
end Lm


/-! allocations: how they are made, what goes over -/
namespace Lm
open PySem PySem.Spec PyProof.Rows L2
theorem sum_set : ∀ {ns : List Int} {m : Nat} {x : Int}, m < ns.length → (ns.set m x).sum = ns.sum - ns.getD m 0 + x
  | [], _, _, h => by simp at h
  | n :: ns, 0, x, _ => by
    show x + ns.sum = (n + ns.sum) - n + x
    omega
  | n :: ns, m + 1, x, h => by
    have := sum_set (ns := ns) (m := m) (x := x) (by simpa using h)
    show n + (ns.set m x).sum = (n + ns.sum) - ns.getD m 0 + x
    omega
theorem Alc.one {ns : List Int} {v : Int} {b m : Nat} (h : Alc ns v b) (hm : m < ns.length) : Alc (ns.set m (ns.getD m 0 + 1)) v ((b + 1 : Nat) : Int) := by
  refine ⟨by rw [List.length_set]; exact h.len, ?_, fun n hn => ?_⟩
  · have := h.sum
    rw [sum_set hm]
    omega
  · rcases List.mem_or_eq_of_mem_set hn with q | q
    · exact h.nn n q
    · have : ns.getD m 0 ∈ ns := by
        rw [List.getD_eq_getElem?_getD, List.getElem?_eq_getElem hm]
        exact List.getElem_mem hm
      have := h.nn _ this
      omega
/-! ### sums over two lists at once -/
def zs (f : Int → Int → Int) (ns ms : List Int) : Int := ((List.range ns.length).map fun j => f (ns.getD j 0) (ms.getD j 0)).sum
theorem zs_cons {f : Int → Int → Int} {n m : Int} {ns ms : List Int} : zs f (n :: ns) (m :: ms) = f n m + zs f ns ms := by
  unfold zs
  rw [List.length_cons, List.range_succ_eq_map, List.map_cons, List.sum_cons, List.map_map]
  rfl
theorem trI_zs {ns ms : List Int} (h : ns.length = ms.length) : trI ns ms = zs t0 ns ms := trI_range h
variable {ns ms ps : List Int} {v b : Int}
theorem trI_up (h : ns.length = ms.length) : trI ns ms = ((upI 0 ns.length).map fun i => t0 (ns.getD i.toNat 0) (ms.getD i.toNat 0)).sum := by
  rw [trI_zs h, upI0, List.map_map]
  rfl
/-- a list that is filled place by place -/
structure Due (ns os due : List Int) (v : Int) (n : Nat) : Prop where
  len : (due.length : Int) = v
  got : ∀ j, j < n → due.getD (os.getD j 0).toNat 0 = ns.getD j 0
theorem gd_lt {l : List Int} {j : Nat} (h : j < l.length) : l.getD j 0 = l[j] := by
  rw [List.getD_eq_getElem?_getD, List.getElem?_eq_getElem h]
  rfl
theorem gd_mem {l : List Int} {j : Nat} (h : j < l.length) : l.getD j 0 ∈ l := by rw [gd_lt h]; exact List.getElem_mem h
variable {os due : List Int} {n : Nat}
theorem Due.step (d : Due ns os due v n) (ho : IsOrd os v) (hn : n < os.length) : Due ns os (due.set (os.getD n 0).toNat (ns.getD n 0)) v (n + 1) := by
  refine ⟨by rw [List.length_set]; exact d.len, fun j hj => ?_⟩
  have hl := d.len
  have r1 := ho.rng _ (gd_mem hn)
  have h1 : (os.getD n 0).toNat < due.length := by omega
  by_cases q : j = n
  · subst q
    rw [List.getD_eq_getElem?_getD, List.getElem?_set_self h1]
    rfl
  · have hj' : j < n := by omega
    have hjl : j < os.length := by omega
    have r2 := ho.rng _ (gd_mem hjl)
    have ne : (os.getD n 0).toNat ≠ (os.getD j 0).toNat := fun e => by
      have e2 : os.getD j 0 = os.getD n 0 := by omega
      rw [gd_lt hn, gd_lt hjl] at e2
      exact q (nodup_inj ho.nd hjl hn e2)
    rw [List.getD_eq_getElem?_getD, List.getElem?_set_ne ne, ← List.getD_eq_getElem?_getD]
    exact d.got j hj'
theorem Due.done (d : Due ns os due v os.length) (ho : IsOrd os v) : due = placedI ns os := by
  have hl := d.len
  have hol := ho.len
  apply List.ext_getElem
  · simp [placedI, upI]; omega
  · intro i h1 h2
    obtain ⟨hj, h3, _⟩ := ho.idx (i := (i : Int)) (by omega) (by omega)
    have := d.got _ hj
    have e1 : os.getD (os.idxOf (i : Int)) 0 = i := by rw [List.getD_eq_getElem?_getD, h3]; rfl
    rw [e1] at this
    have e2 : ((i : Int)).toNat = i := by omega
    rw [e2, gd_lt h1] at this
    rw [this]
    unfold placedI
    simp [upI]
theorem ixN_at {n m : Nat} {i : Int} (hi : i = (m : Int)) (h : m < n) : ixN n i = some m := by
  rw [hi]
  exact Evl.ixN_nat h
theorem at_ints {ns : List Int} {j : Nat} (h : j < ns.length) : atI (ns.map PyData.int) (j : Int) = some (.int (ns.getD j 0)) := atI_nat (by simp [h])
end Lm


/-! zip whose tuples are kept; enumerate(zip(a, b)) -/
namespace Lm
open PySem PySem.Spec PyProof.Rows L2
/-- a zip, with what it says of its last tuple -/
abbrev IsZipX (h : Heap) (z TI TO : Addr) (x : Value) (b : Bool) : Prop := h.get? z = some { cls := .type "zip", data := .fields #[x, .bool b, .bool false, .ref TI, .ref TO] }
section
variable {prog : Program} {w : World} {A : Around} {E : Value → Shared → Prop} {s : Shared} {z TI TO i1 i2 : Addr} {fp1 fp2 : List Addr} {n1 n2 i : Nat} {P1 P2 : Nat → Value → Prop} {St1 St2 : Nat → Heap → Prop} {a1 a2 : Value} {b : Bool} {x : Value}
theorem zipX_free {Q : Bool → Shared → Prop} (hz : IsZipX s.heap z TI TO x b) (hx : x = .none ∨ ∃ T : Addr, x = rawInt T) (h1 : Q true s) (h2 : ∀ h', IsZipX h' z TI TO x true → Heap.SameBut z s.heap h' → Q false { s with heap := h' }) :
    wpAny (model prog w) A (Builtin.SmallTypes.ownedTupleIsFree (.ref z)) Q E s := by
  unfold Builtin.SmallTypes.ownedTupleIsFree
  refine wpAny_bind (wpAny_field hz rfl (x := x) rfl ?_)
  rcases hx with rfl | ⟨T, rfl⟩
  · exact wpAny_pure h1
  · show wpAny _ _ (loadIfAlive T >>= _) _ _ _
    cases hT : s.heap.get? T with
    | none =>
      have alive : ∀ {Q : Option Obj → Shared → Prop}, Q none s → wpAny (model prog w) A (loadIfAlive T) Q E s := fun {Q} q => by
        have q' : Q (s.heap.get? T) s := by rw [hT]; exact q
        exact fun _ _ _ => q'
      refine wpAny_bind (alive ?_)
      exact wpAny_pure h1
    | some o =>
      refine wpAny_bind (PySem.W.kdx_alive hT ?_)
      simp only [Option.isNone_some, Bool.false_eq_true, if_false]
      refine wpAny_bind (wpAny_field hz rfl (x := .bool b) rfl ?_)
      cases b with
      | true => exact wpAny_pure (h2 _ hz (Heap.SameBut.refl ..))
      | false => exact wpAny_bind (wpAny_setField_rec hz (by simp) fun h1 hz1 hs1 => wpAny_pure (h2 h1 hz1 hs1))
/-- a turn of zip, whatever became of the last tuple -/
theorem zipX_item {Q : Value → Shared → Prop} (S : ZipSep2 z TI TO i1 i2 fp1 fp2) (D1 : Draws prog w A i1 fp1 n1 P1 St1) (D2 : Draws prog w A i2 fp2 n2 P2 St2)
    (hz : IsZipX s.heap z TI TO x b) (hx : x = .none ∨ ∃ T : Addr, x = rawInt T) (hTI : IsTupOf2 s.heap TI (.ref i1) (.ref i2)) (hTO : IsTupOf2 s.heap TO a1 a2) (st1 : St1 i s.heap) (st2 : St2 i s.heap) (hlt1 : i < n1) (hlt2 : i < n2)
    (hQ : ∀ x1 x2 h' tk x' b', P1 i x1 → P2 i x2 → IsZipX h' z TI TO x' b' → (x' = .none ∨ ∃ T : Addr, x' = rawInt T) → (∃ a1 a2, IsTupOf2 h' TO a1 a2) → St1 (i + 1) h' → St2 (i + 1) h' → IsTupOf2 h' s.heap.objs.size x1 x2 → h'.objs.size = s.heap.objs.size + 1 →
      (∀ c o, c ≠ z → c ≠ TO → c ≠ i1 → c ≠ i2 → s.heap.get? c = some o → h'.get? c = some o) → Q (.ref s.heap.objs.size) { s with heap := h', toks := tk }) :
    wpAny (model prog w) A (Builtin.«zip.__next__» ⟨[.ref z], []⟩) (fun fin s' => ∃ v, fin = .done (.ret v) ∧ Q v s') E s := by
  obtain ⟨hp, g, d, tk0, os⟩ := s
  show wpAny _ _ (field (.ref z) 2 >>= _) _ _ _
  refine wpAny_bind (wpAny_field hz rfl (x := .bool false) rfl ?_)
  show wpAny _ _ (field (.ref z) 3 >>= _) _ _ _
  refine wpAny_bind (wpAny_field hz rfl (x := .ref TI) rfl ?_)
  refine wpAny_bind (wpAny_seqItems hTI rfl ?_)
  show wpAny _ _ (Builtin.SmallTypes.ownedTupleIsFree (.ref z) >>= _) _ _ _
  refine wpAny_bind (zipX_free hz hx ?_ fun g0 hz0 hs0 => ?_)
  · simp only [if_true]
    refine wpAny_bind (wpAny_rule (wpAny_bind (wpAny_field hz rfl (x := .ref TO) rfl ?_)))
    refine wpAny_bind (wpAny_setField_rec hz (by simp) fun g0 hz0 hs0 => ?_)
    replace hz0 : IsZipX g0 z TI TO .ellipsis b := hz0
    replace hs0 : Heap.SameBut z hp g0 := hs0
    refine wpAny_bind ?_
    simp only [List.zipIdx_cons, List.zipIdx_nil, List.forIn_cons, List.forIn_nil]
    refine wpAny_bind (wpAny_bind (wpAny_onRaise ?_))
    show wpAny _ _ (Builtin.SmallTypes.nextOf (.ref i1) >>= _) _ _ ⟨g0, g, d, tk0, os⟩
    refine wpAny_bind (D1.item i _ _ _ hlt1 (D1.over st1 hs0 S.zf1) fun x1 p1 tk1 hx1 sn1 hp1 => wpAny_pure ?_)
    replace hp1 : Heap.SameBut i1 g0 p1 := hp1
    have hU1 : IsTupOf2 p1 TO a1 a2 := hp1.extBut _ _ S.Ti1 (hs0.extBut _ _ S.TOz hTO)
    refine wpAny_bind (wpAny_seqItems (s := ⟨p1, g, d, tk1, os⟩) hU1 rfl ?_)
    refine wpAny_bind (updateSeq_IsTupOf2 (s := ⟨p1, g, d, tk1, os⟩) hU1 fun g1 hT1 hs1 => ?_)
    replace hT1 : IsTupOf2 g1 TO x1 a2 := hT1
    replace hs1 : Heap.SameBut TO p1 g1 := hs1
    refine wpAny_bind (wpAny_letGo (wpAny_pure ?_))
    refine wpAny_bind (wpAny_bind (wpAny_onRaise ?_))
    show wpAny _ _ (Builtin.SmallTypes.nextOf (.ref i2) >>= _) _ _ ⟨g1, g, d, tk1, os⟩
    refine wpAny_bind (D2.item i _ _ _ hlt2 (D2.over (D2.over (D2.over st2 hs0 S.zf2) hp1 S.sep1_2) hs1 S.Tf2) fun x2 p2 tk2 hx2 sn2 hp2 => wpAny_pure ?_)
    replace hp2 : Heap.SameBut i2 g1 p2 := hp2
    have hU2 : IsTupOf2 p2 TO x1 a2 := hp2.extBut _ _ S.Ti2 hT1
    refine wpAny_bind (wpAny_seqItems (s := ⟨p2, g, d, tk2, os⟩) hU2 rfl ?_)
    refine wpAny_bind (updateSeq_IsTupOf2 (s := ⟨p2, g, d, tk2, os⟩) hU2 fun g2 hT2 hs2 => ?_)
    replace hT2 : IsTupOf2 g2 TO x1 x2 := hT2
    replace hs2 : Heap.SameBut TO p2 g2 := hs2
    refine wpAny_bind (wpAny_letGo (wpAny_pure (wpAny_pure ?_)))
    refine wpAny_bind (wpAny_seqItems (s := ⟨g2, g, d, tk2, os⟩) hT2 rfl (wpAny_bind (wpAny_newTuple ?_)))
    have hsz : g2.objs.size = hp.objs.size := by rw [hs2.1, hp2.1, hs1.1, hp1.1, hs0.1]
    have hzz : IsZipX g2 z TI TO .ellipsis b := (hs2.extBut _ _ S.TOz.symm (hp2.extBut _ _ S.zi2 (hs1.extBut _ _ S.TOz.symm (hp1.extBut _ _ S.zi1 hz0))))
    have hkk : ∀ c o, c ≠ z → c ≠ TO → c ≠ i1 → c ≠ i2 → hp.get? c = some o → g2.get? c = some o := fun c o cz cT c1 c2 e =>
      hs2.extBut _ _ cT (hp2.extBut _ _ c2 (hs1.extBut _ _ cT (hp1.extBut _ _ c1 (hs0.extBut _ _ cz e))))
    have hj1 : St1 (i + 1) g2 := D1.over (D1.over (D1.over sn1 hs1 S.Tf1) hp2 S.sep2_1) hs2 S.Tf1
    have hj2 : St2 (i + 1) g2 := D2.over sn2 hs2 S.Tf2
    have hzlt : z < g2.objs.size := Heap.lt_size hzz
    show wpAny _ _ (Builtin.SmallTypes.ownedTupleHandOut (.ref z) (.ref g2.objs.size) >>= _) _ _ ⟨g2.push { cls := .type "tuple", data := .seq #[x1, x2] }, g, d, tk2, os⟩
    refine wpAny_bind ?_
    unfold Builtin.SmallTypes.ownedTupleHandOut
    have hz6 : IsZipX (g2.push { cls := .type "tuple", data := .seq #[x1, x2] }) z TI TO .ellipsis b := Heap.get?_push_of_some _ hzz
    refine wpAny_bind (wpAny_setField_rec hz6 (by simp) fun h7 hz7 hs7 => ?_)
    replace hz7 : IsZipX h7 z TI TO (rawInt g2.objs.size) b := hz7
    refine wpAny_setField_rec hz7 (by simp) fun h8 hz8 hs8 => ?_
    replace hz8 : IsZipX h8 z TI TO (rawInt g2.objs.size) false := hz8
    replace hs7 : Heap.SameBut z (g2.push { cls := .type "tuple", data := .seq #[x1, x2] }) h7 := hs7
    replace hs8 : Heap.SameBut z h7 h8 := hs8
    have up : ∀ c o, c ≠ z → g2.get? c = some o → h8.get? c = some o := fun c o c1 e => hs8.extBut _ _ c1 (hs7.extBut _ _ c1 (Heap.get?_push_of_some _ e))
    have hT8 : IsTupOf2 h8 g2.objs.size x1 x2 := hs8.extBut _ _ (Nat.ne_of_gt hzlt) (hs7.extBut _ _ (Nat.ne_of_gt hzlt) (Heap.get?_push_size _ rfl))
    have hz9 : h8.objs.size = g2.objs.size + 1 := by rw [hs8.1, hs7.1, Heap.size_push]
    rw [hsz] at hz8 hT8 hz9
    refine wpAny_pure ⟨_, rfl, ?_⟩
    show Q (.ref g2.objs.size) ⟨h8, g, d, tk2, os⟩
    rw [hsz]
    exact hQ x1 x2 h8 tk2 _ _ hx1 hx2 hz8 (.inr ⟨_, rfl⟩) ⟨_, _, up _ _ S.TOz hT2⟩ (D1.frame _ _ _ hj1 fun b hb o e => up b o (fun q => S.zf1 (q ▸ hb)) e) (D2.frame _ _ _ hj2 fun b hb o e => up b o (fun q => S.zf2 (q ▸ hb)) e) hT8 hz9 fun c o cz cT c1 c2 e => up c o cz (hkk c o cz cT c1 c2 e)
  · replace hs0 : Heap.SameBut z hp g0 := hs0
    simp only [Bool.false_eq_true, if_false]
    refine wpAny_bind ?_
    rw [← Array.forIn_toList]
    simp only [List.forIn_cons, List.forIn_nil]
    refine wpAny_bind (wpAny_bind (wpAny_holding ?_))
    show wpAny _ _ (Builtin.SmallTypes.nextOf (.ref i1) >>= _) _ _ ⟨g0, g, d, tk0, os⟩
    refine wpAny_bind (D1.item i _ _ _ hlt1 (D1.over st1 hs0 S.zf1) fun x1 p1 tk1 hx1 sn1 hp1 => wpAny_pure ?_)
    replace hp1 : Heap.SameBut i1 g0 p1 := hp1
    refine wpAny_pure ?_
    refine wpAny_bind (wpAny_bind (wpAny_holding ?_))
    show wpAny _ _ (Builtin.SmallTypes.nextOf (.ref i2) >>= _) _ _ ⟨p1, g, d, tk1, os⟩
    refine wpAny_bind (D2.item i _ _ _ hlt2 (D2.over (D2.over st2 hs0 S.zf2) hp1 S.sep1_2) fun x2 p2 tk2 hx2 sn2 hp2 => wpAny_pure ?_)
    replace hp2 : Heap.SameBut i2 p1 p2 := hp2
    refine wpAny_pure (wpAny_pure ?_)
    show wpAny _ _ (newTuple [x1, x2] >>= _) _ _ ⟨p2, g, d, tk2, os⟩
    refine wpAny_bind (wpAny_newTuple ?_)
    have hsz : p2.objs.size = hp.objs.size := by rw [hp2.1, hp1.1, hs0.1]
    have hzz : IsZipX p2 z TI TO x true := hp2.extBut _ _ S.zi2 (hp1.extBut _ _ S.zi1 hz0)
    have hj1 : St1 (i + 1) p2 := D1.over sn1 hp2 S.sep2_1
    have hTO2 : IsTupOf2 p2 TO a1 a2 := hp2.extBut _ _ S.Ti2 (hp1.extBut _ _ S.Ti1 (hs0.extBut _ _ S.TOz hTO))
    refine wpAny_pure ⟨_, rfl, ?_⟩
    show Q (.ref p2.objs.size) _
    rw [hsz]
    refine hQ x1 x2 (p2.push { cls := .type "tuple", data := .seq #[x1, x2] }) tk2 _ _ hx1 hx2 (Heap.get?_push_of_some _ hzz) hx ⟨_, _, Heap.get?_push_of_some _ hTO2⟩ (D1.frame _ _ _ hj1 fun b hb o e => Heap.get?_push_of_some _ e) (D2.frame _ _ _ sn2 fun b hb o e => Heap.get?_push_of_some _ e) ?_ (by rw [Heap.size_push, hsz]) fun c o cz cT c1 c2 e => Heap.get?_push_of_some _ (hp2.extBut _ _ c2 (hp1.extBut _ _ c1 (hs0.extBut _ _ cz e)))
    rw [← hsz]
    exact Heap.get?_push_size _ rfl
/-- zip at its end: the first iterator has ended -/
theorem zipX_end {Q : Fin → Shared → Prop} (S : ZipSep2 z TI TO i1 i2 fp1 fp2) (D1 : Draws prog w A i1 fp1 n1 P1 St1)
    (hz : IsZipX s.heap z TI TO x b) (hx : x = .none ∨ ∃ T : Addr, x = rawInt T) (hTI : IsTupOf2 s.heap TI (.ref i1) (.ref i2)) (st1 : St1 n1 s.heap)
    (hE : ∀ h' e, (∀ c o, c ≠ z → c ≠ i1 → s.heap.get? c = some o → h'.get? c = some o) → (∃ o, h'.get? e = some o ∧ o.cls = .type "StopIteration") → E (.ref e) { s with heap := h' }) :
    wpAny (model prog w) A (Builtin.«zip.__next__» ⟨[.ref z], []⟩) Q E s := by
  obtain ⟨hp, g, d, tk0, os⟩ := s
  show wpAny _ _ (field (.ref z) 2 >>= _) _ _ _
  refine wpAny_bind (wpAny_field hz rfl (x := .bool false) rfl ?_)
  show wpAny _ _ (field (.ref z) 3 >>= _) _ _ _
  refine wpAny_bind (wpAny_field hz rfl (x := .ref TI) rfl ?_)
  refine wpAny_bind (wpAny_seqItems hTI rfl ?_)
  show wpAny _ _ (Builtin.SmallTypes.ownedTupleIsFree (.ref z) >>= _) _ _ _
  refine wpAny_bind (zipX_free hz hx ?_ fun g0 hz0 hs0 => ?_)
  · simp only [if_true]
    refine wpAny_bind (wpAny_rule (wpAny_bind (wpAny_field hz rfl (x := .ref TO) rfl ?_)))
    refine wpAny_bind (wpAny_setField_rec hz (by simp) fun g0 hz0 hs0 => ?_)
    replace hz0 : IsZipX g0 z TI TO .ellipsis b := hz0
    replace hs0 : Heap.SameBut z hp g0 := hs0
    refine wpAny_bind ?_
    simp only [List.zipIdx_cons, List.zipIdx_nil, List.forIn_cons, List.forIn_nil]
    refine wpAny_bind (wpAny_bind (wpAny_onRaise ?_))
    show wpAny _ _ (Builtin.SmallTypes.nextOf (.ref i1) >>= _) _ _ ⟨g0, g, d, tk0, os⟩
    refine wpAny_bind (D1.done ⟨g0, g, d, tk0, os⟩ _ _ (D1.over st1 hs0 S.zf1) fun q e hq he => ?_)
    replace hq : Heap.ExtBut i1 g0 q := hq
    obtain ⟨oe, hoe, hce⟩ := he
    replace hoe : q.get? e = some oe := hoe
    have hzq : IsZipX q z TI TO .ellipsis b := hq _ _ S.zi1 hz0
    have hez : e ≠ z := fun y => by subst y; rw [hzq] at hoe; cases hoe; simp at hce
    refine wpAny_setField_rec (s := ⟨q, g, d, tk0, os⟩) hzq (by simp) fun q' _ hq' => ?_
    replace hq' : Heap.SameBut z q q' := hq'
    exact hE q' e (fun c o cz c1 y => hq'.extBut _ _ cz (hq _ _ c1 (hs0.extBut _ _ cz y))) ⟨oe, hq'.extBut _ _ hez hoe, hce⟩
  · replace hs0 : Heap.SameBut z hp g0 := hs0
    simp only [Bool.false_eq_true, if_false]
    refine wpAny_bind ?_
    rw [← Array.forIn_toList]
    simp only [List.forIn_cons, List.forIn_nil]
    refine wpAny_bind (wpAny_bind (wpAny_holding ?_))
    show wpAny _ _ (Builtin.SmallTypes.nextOf (.ref i1) >>= _) _ _ ⟨g0, g, d, tk0, os⟩
    refine wpAny_bind (D1.done ⟨g0, g, d, tk0, os⟩ _ _ (D1.over st1 hs0 S.zf1) fun q e hq he => ?_)
    replace hq : Heap.ExtBut i1 g0 q := hq
    exact hE q e (fun c o cz c1 y => hq _ _ c1 (hs0.extBut _ _ cz y)) he
end
section
variable {prog : Program} {w : World} {A : Around} {E : Value → Shared → Prop} {s : Shared}
/-- a turn of enumerate, the inner iterator's turn being given -/
theorem enumN_item {e it : Addr} {i : Nat} {old : Value} {Q : Value → Shared → Prop} (he : IsEnum s.heap e it i old)
    (inner : wpAny (model prog w) A (Builtin.SmallTypes.nextOf (.ref it)) (fun x s1 => IsEnum s1.heap e it i old ∧
      ∀ h' tk, IsEnumOut h' e it ((i : Int) + 1) x s1.heap.objs.size → h'.get? s1.heap.objs.size = some { cls := .type "tuple", data := .seq #[.int i tk, x] } →
        (∀ b o, b ≠ e → s1.heap.get? b = some o → h'.get? b = some o) → Q (.ref s1.heap.objs.size) { s1 with heap := h', toks := s1.toks + 1 }) E s) :
    wpAny (model prog w) A (Builtin.«enumerate.__next__» ⟨[.ref e], []⟩) (fun fin s' => ∃ v, fin = .done (.ret v) ∧ Q v s') E s := by
  show wpAny _ _ (field (.ref e) 2 >>= _) _ _ _
  refine wpAny_bind (wpAny_field he rfl (x := .ref it) rfl ?_)
  refine wpAny_bind (wpAny_mono inner (fun x s1 hh => ?_) fun _ _ y => y)
  obtain ⟨he1, hQ⟩ := hh
  obtain ⟨h1, g, d, tk, os⟩ := s1
  show wpAny _ _ (field (.ref e) 3 >>= _) _ _ ⟨h1, g, d, tk, os⟩
  refine wpAny_bind (wpAny_field he1 rfl (x := rawInt i) rfl ?_)
  show wpAny _ _ (field (.ref e) 4 >>= _) _ _ ⟨h1, g, d, tk, os⟩
  refine wpAny_bind (wpAny_field he1 rfl (x := .none) rfl ?_)
  show wpAny _ _ (mkInt i >>= _) _ _ ⟨h1, g, d, tk, os⟩
  refine wpAny_bind (wpAny_mkInt ?_)
  show wpAny _ _ (setField (.ref e) 3 (rawInt ((i : Int) + 1)) >>= _) _ _ ⟨h1, g, d, tk + 1, os⟩
  refine wpAny_bind (wpAny_setField_rec he1 (by simp) fun h2 he2 hs2 => ?_)
  replace hs2 : Heap.SameBut e h1 h2 := hs2
  replace he2 : IsEnum h2 e it ((i : Int) + 1) old := he2
  show wpAny _ _ (setField (.ref e) 4 .none >>= _) _ _ ⟨h2, g, d, tk + 1, os⟩
  refine wpAny_bind (wpAny_setField_rec he2 (by simp) fun h3 he3 hs3 => ?_)
  replace hs3 : Heap.SameBut e h2 h3 := hs3
  replace he3 : IsEnum h3 e it ((i : Int) + 1) old := he3
  show wpAny _ _ (newTuple [.int i tk, x] >>= _) _ _ ⟨h3, g, d, tk + 1, os⟩
  refine wpAny_bind (wpAny_newTuple ?_)
  have hsz : h3.objs.size = h1.objs.size := by rw [hs3.1, hs2.1]
  have hel : e < h1.objs.size := Heap.lt_size he1
  have he4 : IsEnum (h3.push { cls := .type "tuple", data := .seq #[.int i tk, x] }) e it ((i : Int) + 1) old := Heap.get?_push_of_some _ he3
  have ht4 : (h3.push { cls := .type "tuple", data := .seq #[.int i tk, x] }).get? h3.objs.size = some { cls := .type "tuple", data := .seq #[.int i tk, x] } := Heap.get?_push_size _ rfl
  have hk4 : ∀ b o, b ≠ e → h1.get? b = some o → (h3.push { cls := .type "tuple", data := .seq #[.int i tk, x] }).get? b = some o := fun b o hbe hb =>
    Heap.get?_push_of_some _ (hs3.extBut b o hbe (hs2.extBut b o hbe hb))
  generalize h3.push { cls := .type "tuple", data := .seq #[.int i tk, x] } = h4 at he4 ht4 hk4
  show wpAny _ _ (Builtin.SmallTypes.ownedTupleIsFree (.ref e) >>= _) _ _ ⟨h4, g, d, tk + 1, os⟩
  rw [hsz] at ht4 ⊢
  refine wpAny_bind ?_
  unfold Builtin.SmallTypes.ownedTupleIsFree
  refine wpAny_bind (wpAny_field he4 rfl (x := .none) rfl (wpAny_pure ?_))
  simp only [if_true]
  refine wpAny_bind (wpAny_rule (wpAny_bind (wpAny_field he4 rfl (x := old) rfl ?_)))
  refine wpAny_bind (wpAny_setField_rec he4 (by simp) fun h5 he5 hs5 => ?_)
  replace hs5 : Heap.SameBut e h4 h5 := hs5
  replace he5 : IsEnum h5 e it ((i : Int) + 1) x := he5
  show wpAny _ _ (Builtin.SmallTypes.ownedTupleHandOut (.ref e) (.ref h1.objs.size) >>= _) _ _ ⟨h5, g, d, tk + 1, os⟩
  refine wpAny_bind ?_
  unfold Builtin.SmallTypes.ownedTupleHandOut
  refine wpAny_bind (wpAny_setField_rec he5 (by simp) fun h6 he6 hs6 => ?_)
  replace hs6 : Heap.SameBut e h5 h6 := hs6
  replace he6 : IsEnumOut h6 e it ((i : Int) + 1) x h1.objs.size := he6
  refine wpAny_setField_rec he6 (by simp) fun h7 he7 hs7 => ?_
  replace hs7 : Heap.SameBut e h6 h7 := hs7
  replace he7 : IsEnumOut h7 e it ((i : Int) + 1) x h1.objs.size := he7
  refine wpAny_bind (wpAny_letGo (wpAny_pure ⟨_, rfl, hQ h7 tk he7 ?_ ?_⟩))
  · exact hs7.extBut _ _ (Nat.ne_of_gt hel) (hs6.extBut _ _ (Nat.ne_of_gt hel) (hs5.extBut _ _ (Nat.ne_of_gt hel) ht4))
  · exact fun b o hbe hb => hs7.extBut b o hbe (hs6.extBut b o hbe (hs5.extBut b o hbe (hk4 b o hbe hb)))
theorem nextOf_zip {z TI TO : Addr} {x : Value} {b : Bool} {Q : Value → Shared → Prop} (hz : IsZipX s.heap z TI TO x b)
    (h : wpAny (model prog w) A.in1 (Builtin.«zip.__next__» ⟨[.ref z], []⟩) (fun fin s' => ∃ v, fin = .done (.ret v) ∧ Q v s') E s) : wpAny (model prog w) A (Builtin.SmallTypes.nextOf (.ref z)) Q E s := by
  have hT : s.TypeIs (.ref z) "zip" := ⟨_, hz, rfl⟩
  unfold Builtin.SmallTypes.nextOf
  refine wpAny_bind (wpAny_callSpecial?_slot (name := Str.ofString "__next__") hT F.slot_zip_next
    (wpAny_call_entry F.slot_zip_next hT F.entry_zip_next ?_ (F.args_zip_next_1 _)))
  refine wpAny_mono h (fun fin s' ⟨v, e, q⟩ => ?_) fun _ _ y => y
  subst e
  exact ⟨v, rfl, wpAny_pure q⟩
theorem next_enum {e it : Addr} {i : Int} {old : Value} {Q : Option Value → Shared → Prop} (he : IsEnum s.heap e it i old)
    (h : ∀ E' : Value → Shared → Prop, wpAny (model prog w) A.in1 (Builtin.«enumerate.__next__» ⟨[.ref e], []⟩) (fun fin s' => ∃ v, fin = .done (.ret v) ∧ Q (some v) s') E' s) : wpAny (model prog w) A (pyNext (.ref e)) Q E s := by
  have hT : s.TypeIs (.ref e) "enumerate" := ⟨_, he, rfl⟩
  unfold pyNext
  refine wpAny_bind (wpAny_attempt (wpAny_callSpecial?_slot (name := Str.ofString "__next__") hT F.slot_enumerate_next
    (wpAny_call_entry F.slot_enumerate_next hT F.entry_enumerate_next ?_ (F.args_enumerate_next_1 _))))
  refine wpAny_mono (h _) (fun fin s' ⟨v, e, q⟩ => ?_) fun _ _ y => y
  subst e
  exact ⟨v, rfl, wpAny_pure q⟩
theorem next_enum_zip_end {e z TI TO i1 i2 : Addr} {i : Int} {old x : Value} {b : Bool} {fp1 fp2 : List Addr} {n1 : Nat} {P1 : Nat → Value → Prop} {St1 : Nat → Heap → Prop} {Q : Option Value → Shared → Prop} (he : IsEnum s.heap e z i old)
    (S : ZipSep2 z TI TO i1 i2 fp1 fp2) (D1 : ∀ A' : Around, A'.handled = none → Draws prog w A' i1 fp1 n1 P1 St1) (hh : A.handled = none) (hz : IsZipX s.heap z TI TO x b) (hx : x = .none ∨ ∃ T : Addr, x = rawInt T) (hTI : IsTupOf2 s.heap TI (.ref i1) (.ref i2)) (st1 : St1 n1 s.heap)
    (hQ : ∀ h', (∀ c o, c ≠ z → c ≠ i1 → s.heap.get? c = some o → h'.get? c = some o) → Q none { s with heap := h' }) : wpAny (model prog w) A (pyNext (.ref e)) Q E s := by
  have hT : s.TypeIs (.ref e) "enumerate" := ⟨_, he, rfl⟩
  have hTz : s.TypeIs (.ref z) "zip" := ⟨_, hz, rfl⟩
  unfold pyNext
  refine wpAny_bind (wpAny_attempt (wpAny_callSpecial?_slot (name := Str.ofString "__next__") hT F.slot_enumerate_next
    (wpAny_call_entry F.slot_enumerate_next hT F.entry_enumerate_next ?_ (F.args_enumerate_next_1 _))))
  show wpAny _ _ (field (.ref e) 2 >>= _) _ _ _
  refine wpAny_bind (wpAny_field he rfl (x := .ref z) rfl ?_)
  unfold Builtin.SmallTypes.nextOf
  refine wpAny_bind (wpAny_bind (wpAny_callSpecial?_slot (name := Str.ofString "__next__") hTz F.slot_zip_next
    (wpAny_call_entry F.slot_zip_next hTz F.entry_zip_next ?_ (F.args_zip_next_1 _))))
  refine zipX_end S (D1 _ hh) hz hx hTI st1 fun h' x' he' hx' => ?_
  obtain ⟨o, ho, hc⟩ := hx'
  refine wpAny_bind (wpAny_isInstance (T := "StopIteration") (b := true) ⟨o, ho, hc⟩ isSubtype_stop ?_)
  exact wpAny_pure (hQ _ he')
end
/-- enumerate(zip(a, b)), a and b tuples: the items in new pairs, each in a new pair with its place -/
def IteZ (K : PySem.W.Frag) (a b : Addr) : It where
  go := fun i H => ∃ (xs ys : List V) (x y : V), SqT K H a xs ∧ SqT K H b ys ∧ xs[i]? = some x ∧ ys[i]? = some y
  yld := fun i H v H' => ∃ (T2 T3 : Addr) (x y : V), v = .ref T3 ∧ H T2 = none ∧ upd H T2 (.tup [x, y]) T3 = none ∧ H' = upd (upd H T2 (.tup [x, y])) T3 (.tup [.int (i : Nat), .ref T2]) ∧ (∀ xs, SqT K H a xs → xs[i]? = some x) ∧ ∀ ys, SqT K H b ys → ys[i]? = some y
  stop := fun i H => ∃ xs : List V, SqT K H a xs ∧ xs.length = i
theorem turnEnumZ {P : Program} {w : World} {K : PySem.W.Frag} {elts : List Expr} {kk : Nat} {tpos : Pos} {a b e z TI TO i1 i2 : Addr} (S : ZipSep2 z TI TO i1 i2 [i1, a] [i2, b]) (ha : a ≠ i1) (hb : b ≠ i2) (ez : e ≠ z) (eI : e ≠ TI) (eO : e ≠ TO) (e1 : e ≠ i1) (e2 : e ≠ i2) :
    Turn P w K (.Tuple elts kk tpos) (IteZ K a b) [e, z, TI, TO, i1, i2] e fun i h => (∃ old, IsEnum h e z ((i : Nat) : Int) old) ∧ (∃ x bb, IsZipX h z TI TO x bb ∧ (x = .none ∨ ∃ T : Addr, x = rawInt T)) ∧ IsTupOf2 h TI (.ref i1) (.ref i2) ∧ (∃ a1 a2, IsTupOf2 h TO a1 a2) ∧ h.IsTupleIter i1 a i ∧ h.IsTupleIter i2 b i where
  mem := List.mem_cons_self
  obj := by
    rintro i h ⟨⟨old, he⟩, ⟨x, bb, hz, _⟩, hTI, ⟨a1, a2, hTO⟩, ⟨o1, g1, _, d1⟩, ⟨o2, g2, _, d2⟩⟩ c hc
    have e' : c = e ∨ c = z ∨ c = TI ∨ c = TO ∨ c = i1 ∨ c = i2 := by simpa using hc
    rcases e' with q | q | q | q | q | q
    · rw [q]; exact ⟨_, he, fun v q => nomatch q⟩
    · rw [q]; exact ⟨_, hz, fun v q => nomatch q⟩
    · rw [q]; exact ⟨_, hTI, fun v q => nomatch q⟩
    · rw [q]; exact ⟨_, hTO, fun v q => nomatch q⟩
    · rw [q]; exact ⟨o1, g1, fun v q => by rw [d1] at q; cases q⟩
    · rw [q]; exact ⟨o2, g2, fun v q => by rw [d2] at q; cases q⟩
  keep := by
    rintro i h h' ⟨⟨old, he⟩, ⟨x, bb, hz, hx⟩, hTI, ⟨a1, a2, hTO⟩, h1, h2⟩ k
    exact ⟨⟨old, k e (by simp) _ he⟩, ⟨x, bb, k z (by simp) _ hz, hx⟩, k TI (by simp) _ hTI, ⟨a1, a2, k TO (by simp) _ hTO⟩, h1.at fun o q => k i1 (by simp) o q, h2.at fun o q => k i2 (by simp) o q⟩
  item := by
    intro X hP hw hK hc i pins s σ H E I hf ⟨⟨old, he⟩, ⟨x0, bb, hz, hx0⟩, hTI, ⟨a1, a2, hTO⟩, h1, h2⟩ ⟨xs, ys, x, y, hqx, hqy, hx, hy⟩
    subst hP hw hK
    obtain ⟨its, rv, p, _⟩ := I.tuple hqx
    obtain ⟨its2, rv2, p2, _⟩ := I.tuple hqy
    obtain ⟨u, hu, ru⟩ := rv.get hx
    obtain ⟨u2, hu2, ru2⟩ := rv2.get hy
    have lt1 : i < its.toArray.size := by rw [List.size_toArray]; exact (List.getElem?_eq_some_iff.mp hu).1
    have lt2 : i < its2.toArray.size := by rw [List.size_toArray]; exact (List.getElem?_eq_some_iff.mp hu2).1
    have hh : X.A.in1.in1.handled = none := I.ok.hd hc
    have hel := Heap.lt_size he
    refine next_enum he fun E' => enumN_item he (nextOf_zip hz (zipX_item S (Draws.tuple hh i1 a ha its.toArray) (Draws.tuple hh i2 b hb its2.toArray) hz hx0 hTI hTO ⟨h1, p⟩ ⟨h2, p2⟩ lt1 lt2 fun v1 v2 g1 tk x' b' hv1 hv2 hz' hx' hTO' s1' s2' hT hsz hk => ⟨?_, fun h' tk2 ho hT3 hk2 => ⟨_, rfl, wpAny_letOwnedTupleGo_enum ho fun h'' he'' sb => ?_⟩⟩))
    · exact hk _ _ ez eO e1 e2 he
    · have q1 : v1 = u := by
        have : its[i]? = some v1 := by simpa using hv1
        rw [hu] at this
        exact (Option.some.inj this).symm
      have q2 : v2 = u2 := by
        have : its2[i]? = some v2 := by simpa using hv2
        rw [hu2] at this
        exact (Option.some.inj this).symm
      subst q1 q2
      have hf1 : ∀ c ∈ [z, TI, TO, i1, i2], FpOk X pins H c := fun c hc => hf c (List.mem_cons_of_mem _ hc)
      have frT : H s.heap.objs.size = none := I.hok.fresh (Nat.le_refl _)
      have hlt : ∀ c ∈ [e, z, TI, TO, i1, i2], c < s.heap.objs.size := fun c hc => by
        have e' : c = e ∨ c = z ∨ c = TI ∨ c = TO ∨ c = i1 ∨ c = i2 := by simpa using hc
        rcases e' with q | q | q | q | q | q
        · rw [q]; exact hel
        · rw [q]; exact Heap.lt_size hz
        · rw [q]; exact Heap.lt_size hTI
        · rw [q]; exact Heap.lt_size hTO
        · rw [q]; obtain ⟨_, w1, _⟩ := h1; exact Heap.lt_size w1
        · rw [q]; obtain ⟨_, w1, _⟩ := h2; exact Heap.lt_size w1
      have I1 : Inv X pins σ (upd H s.heap.objs.size (.tup [x, y])) { s with heap := g1, toks := tk } :=
        I.turnedNew (t' := tk) (ch := [z, TI, TO, i1, i2]) (fun c o hb q => hk c o (fun q' => hb (by simp [q'])) (fun q' => hb (by simp [q'])) (fun q' => hb (by simp [q'])) (fun q' => hb (by simp [q'])) q) hf1 (Nat.le_refl _)
          ⟨by show 2 ≤ sizeLine; decide, [v1, v2], .cons ru (.cons ru2 .nil), ⟨_, hT, rfl, _, rfl⟩⟩
      have heg : e < g1.objs.size := by rw [hsz]; exact Nat.lt_succ_of_lt hel
      have fe : FpOk X pins (upd H s.heap.objs.size (.tup [x, y])) e := by
        obtain ⟨f0, f1⟩ := hf e List.mem_cons_self
        exact ⟨by rw [upd_ne (Nat.ne_of_lt hel)]; exact f0, f1⟩
      have hT3' : h''.get? g1.objs.size = some { cls := .type "tuple", data := .seq #[.int i tk2, .ref s.heap.objs.size] } := (sb.2 _ (Nat.ne_of_gt heg)).trans hT3
      have I2 : Inv X pins σ (upd (upd H s.heap.objs.size (.tup [x, y])) g1.objs.size (.tup [.int (i : Nat), .ref s.heap.objs.size])) { s with heap := h'', toks := tk + 1 } :=
        I1.turnedNew (t' := tk + 1) (ch := [e]) (fun c o hb q => (sb.2 c fun q' => hb (by simp [q'])).trans (hk2 c o (fun q' => hb (by simp [q'])) q)) (fun c hc => by cases List.mem_singleton.mp hc; exact fe) (Nat.le_refl _)
          ⟨by show 2 ≤ sizeLine; decide, [.int i tk2, .ref s.heap.objs.size], .cons ⟨_, rfl⟩ (.cons rfl .nil), ⟨_, hT3', rfl, _, rfl⟩⟩
      have up2 : ∀ c o, c ≠ e → g1.get? c = some o → h''.get? c = some o := fun c o ce q => (sb.2 c ce).trans (hk2 c o ce q)
      refine ⟨.ref g1.objs.size, _, I2, rfl, ⟨_, _, x, y, rfl, frT, I1.hok.fresh (Nat.le_refl _), rfl, fun l hl => by rw [I.tuple_inj hl hqx]; exact hx, fun l hl => by rw [I.tuple_inj hl hqy]; exact hy⟩, ⟨⟨.ref s.heap.objs.size, ?_⟩, ⟨x', b', up2 _ _ ez.symm hz', hx'⟩, ?_, ?_, s1'.1.at fun o q => up2 _ o e1.symm q, s2'.1.at fun o q => up2 _ o e2.symm q⟩, fun c hc => ?_⟩
      · have w1 : ((i + 1 : Nat) : Int) = (i : Int) + 1 := by omega
        rw [w1]; exact he''
      · exact up2 _ _ eI.symm (hk _ _ S.TIz S.TITO S.TIi1 S.TIi2 hTI)
      · obtain ⟨c1, c2, q⟩ := hTO'
        exact ⟨c1, c2, up2 _ _ eO.symm q⟩
      · have lc := hlt c hc
        have lg : c ≠ g1.objs.size := by rw [hsz]; exact Nat.ne_of_lt (Nat.lt_succ_of_lt lc)
        rw [upd_ne lg, upd_ne (Nat.ne_of_lt lc)]
        exact (hf c hc).1
  done := by
    intro X hP hw hK hc i pins s σ H E I hf ⟨⟨old, he⟩, ⟨x0, bb, hz, hx0⟩, hTI, ⟨a1, a2, hTO⟩, h1, h2⟩ ⟨xs, hqx, hx⟩
    subst hP hw hK
    obtain ⟨its, rv, p, _⟩ := I.tuple hqx
    have hl : its.toArray.size = i := by rw [List.size_toArray, ← rv.length]; exact hx
    refine next_enum_zip_end (n1 := its.toArray.size) he S (fun A' hh' => Draws.tuple hh' i1 a ha its.toArray) (I.ok.hd hc) hz hx0 hTI ⟨by rw [hl]; exact h1, p⟩ fun h' hk => ⟨rfl, I.turnedL (t' := s.toks) (ch := [e, z, TI, TO, i1, i2]) (fun c o hb q => hk c o (fun q' => hb (by simp [q'])) (fun q' => hb (by simp [q'])) q) hf⟩
  self := fun A i s Q E ⟨⟨_, he⟩, _⟩ h => wpAny_pyIter_enum he h
theorem meetsEnumZ {z TI TO : Addr} {f0 : Value} :
    Meets (Builtin.«enumerate.__new__» ⟨[.type "enumerate", .ref z], []⟩) fun _ R s => IsZip s.heap z TI TO f0 ∧
      R (.ok (.ret (.ref s.heap.objs.size))) { s with heap := s.heap.push { cls := .type "enumerate", data := .fields #[.none, .bool false, .ref z, rawInt 0, .none, .none] } } :=
  .of_wp fun prog w A R s h => by
    obtain ⟨hp, g, d, tk, os⟩ := s
    obtain ⟨hl, h⟩ := h
    have q1 : ∀ {A' : Around} {E Q : Value → Shared → Prop}, Q (.ref z) ⟨hp, g, d, tk, os⟩ → wpAny (model prog w) A' (pyIter (.ref z)) Q E ⟨hp, g, d, tk, os⟩ := fun q => wpAny_pyIter_zip hl q
    have hsub := sub_enumerate
    wp_walk using q1
    refine wpAny_stack_any fun st => wpAny_pure ?_
    split
    · rename_i c _ _ _ _ _
      cases (c == Value.type "enumerate") <;> (wp_walk using q1; exact ⟨_, rfl, h⟩)
    · wp_walk using q1
      exact ⟨_, rfl, h⟩
theorem callEnumZ {prog : Program} {w : World} {A : Around} {E : Value → Shared → Prop} {s : Shared} {z TI TO : Addr} {f0 : Value} {Q : Value → Shared → Prop} (hz : IsZip s.heap z TI TO f0)
    (h : ∀ h', IsEnum h' s.heap.objs.size z 0 .none → (∀ b o, s.heap.get? b = some o → h'.get? b = some o) → Q (.ref s.heap.objs.size) { s with heap := h' }) :
    wpAny (model prog w) A (call (.type "enumerate") [.ref z]) Q E s := by
  refine callType_new F.called_enumerate (by decide) (F.typeCall_enumerate_1 _) (F.newCall_enumerate_1 _) (fun obj => F.args_object_init_2 obj _) F.entry_enumerate_new meetsEnumZ ⟨hz, ?_⟩
  have he : IsEnum (s.heap.push { cls := .type "enumerate", data := .fields #[.none, .bool false, .ref z, rawInt 0, .none, .none] }) s.heap.objs.size z 0 .none := Heap.get?_push_size _ rfl
  exact ⟨⟨_, he, rfl⟩, h _ he fun b o x => Heap.get?_push_of_some _ x⟩
def iEnumZ (K : PySem.W.Frag) (ta : TA) : TI := fun σ H R => ta σ H fun vs H1 => ∃ a b xs ys, vs = [.ref a, .ref b] ∧ SqT K H1 a xs ∧ SqT K H1 b ys ∧ R (IteZ K a b) H1
theorem pi_enumZ {X : Cx} {e e2 : Expr} {ta : TA} {p pos p2 pos2 tpos : Pos} {elts : List Expr} {kk : Nat} (hg : Gl X "enumerate") (hm : X.mg "enumerate" = none) (hg2 : Gl X "zip") (hm2 : X.mg "zip" = none) (ha : PA X [e, e2] ta)
    (hs : starEach [e, e2] X.env = (false, eval e X.env) :: starEach [e2] X.env := by rfl) (hpl : (backTo pos2 (starEach [e2] X.env)).any (·.1) = false := by rfl) :
    PI X (.Tuple elts kk tpos) (.Call (.Name "enumerate" p) [.Call (.Name "zip" p2) [e, e2] [] pos2] [] pos) (iEnumZ X.K ta) := by
  refine ⟨fun pins s σ H R I h => ?_⟩
  refine Call_ (ld_blt I hg hm boot_enumerate (PyProof.Rows.callWith_type1 (PyProof.Rows.args_cons ?_ rfl) rfl rfl))
  refine Call_ (ld_blt I hg2 hm2 PyProof.Rows.boot_zip (PyProof.Rows.callWith_type1 (thn (ha.run pos2 pins s σ H _ I h) fun us s1 ⟨vs, H1, I1, r1, q1⟩ => ?_) hs hpl))
  obtain ⟨a, b, xs, ys, ex, hqx, hqy, q⟩ := q1
  subst ex
  cases r1 with
  | cons r rr =>
    cases rr with
    | cons r' rr =>
      cases rr
      cases r
      cases r'
      obtain ⟨its, rv, p1, _⟩ := I1.tuple hqx
      obtain ⟨its2, rv2, p3, _⟩ := I1.tuple hqy
      have la : a < s1.heap.objs.size := let ⟨_, w, _⟩ := p1; Heap.lt_size w
      have lb : b < s1.heap.objs.size := let ⟨_, w, _⟩ := p3; Heap.lt_size w
      refine RZ.call_zipT (show s1.heap.IsTuple a its.toArray from p1) (show s1.heap.IsTuple b its2.toArray from p3) fun h' hz hTI hTO h1 h2 hsz hk => PyProof.Rows.args_nil ?_
      refine callEnumZ (s := { s1 with heap := h' }) hz fun h'' he hk2 => wpAny_pyIter_enum he ?_
      have e5 : h'.objs.size = s1.heap.objs.size + 5 := hsz
      have I2 : Inv _ pins σ H1 { s1 with heap := h'' } := I1.kept (t' := s1.toks) fun c o q => hk2 c o (hk c o q)
      have fresh : ∀ c ∈ [h'.objs.size, s1.heap.objs.size + 4, s1.heap.objs.size + 2, s1.heap.objs.size + 3, s1.heap.objs.size, s1.heap.objs.size + 1], FpOk _ pins H1 c := fun c hc => by
        have e' : c = h'.objs.size ∨ c = s1.heap.objs.size + 4 ∨ c = s1.heap.objs.size + 2 ∨ c = s1.heap.objs.size + 3 ∨ c = s1.heap.objs.size ∨ c = s1.heap.objs.size + 1 := by simpa using hc
        have hle : s1.heap.objs.size ≤ c := by
          rcases e' with z | z | z | z | z | z
          · rw [z, e5]; exact Nat.le_add_right _ _
          · rw [z]; exact Nat.le_add_right _ _
          · rw [z]; exact Nat.le_add_right _ _
          · rw [z]; exact Nat.le_add_right _ _
          · rw [z]; exact Nat.le_refl _
          · rw [z]; exact Nat.le_add_right _ _
        exact I1.fpOk hle (I1.hok.fresh hle)
      have ne : ∀ k : Nat, k < 5 → h'.objs.size ≠ s1.heap.objs.size + k := fun k hk' q => by
        have : s1.heap.objs.size + 5 = s1.heap.objs.size + k := e5.symm.trans q
        omega
      refine ⟨h'.objs.size, [h'.objs.size, s1.heap.objs.size + 4, s1.heap.objs.size + 2, s1.heap.objs.size + 3, s1.heap.objs.size, s1.heap.objs.size + 1], _, _, H1, rfl, I2,
        turnEnumZ (zip_sep2 (N := s1.heap.objs.size) (fp1 := [a]) (fp2 := [b]) (fun c hc => by cases List.mem_singleton.mp hc; exact la) (fun c hc => by cases List.mem_singleton.mp hc; exact lb)) (Nat.ne_of_lt la) (Nat.ne_of_lt (Nat.lt_succ_of_lt lb)) (ne 4 (by decide)) (ne 2 (by decide)) (ne 3 (by decide)) (ne 0 (by decide)) (ne 1 (by decide)),
        ⟨⟨_, he⟩, ⟨_, _, hk2 _ _ hz, .inl rfl⟩, hk2 _ _ hTI, ⟨_, _, hk2 _ _ hTO⟩, h1.at fun o q => hk2 _ o q, h2.at fun o q => hk2 _ o q⟩, fresh, q⟩
theorem walk_enumZ {K : PySem.W.Frag} {a b : Addr} {xs ys : List V} (hl : xs.length = ys.length) : Walk (IteZ K a b) xs.length (fun H => SqT K H a xs ∧ SqT K H b ys)
    fun i H v H' => ∃ (T2 T3 : Addr) (x y : V), v = .ref T3 ∧ H T2 = none ∧ upd H T2 (.tup [x, y]) T3 = none ∧ H' = upd (upd H T2 (.tup [x, y])) T3 (.tup [.int (i : Nat), .ref T2]) ∧ xs[i]? = some x ∧ ys[i]? = some y where
  goes := fun i _ hi w => ⟨xs, ys, xs[i], ys[i]'(by omega), w.1, w.2, List.getElem?_eq_getElem hi, List.getElem?_eq_getElem (by omega)⟩
  stops := fun _ w => ⟨xs, w.1, rfl⟩
  yields := fun i H v H' _ w ⟨T2, T3, x, y, h1, h2, h3, h4, h5, h6⟩ => ⟨T2, T3, x, y, h1, h2, h3, h4, h5 xs w.1, h6 ys w.2⟩
section
variable {c : Ct} {Γ : List (Option Rs)} {tr : TA}
def ezI (p : (Int × Int) × Nat) : Im := .t [.d (.int ((p.2 : Nat) : Int)), .t [.d (.int p.1.1), .d (.int p.1.2)]]
/-- enumerate(zip(ns, ms)) -/
theorem i_enumZ {ns ms : List Int} (hl : ns.length = ms.length) (h : EvA c tr Γ true [.tuple (ns.map .int), .tuple (ms.map .int)]) : EvI c (iEnumZ c.K tr) Γ true ((ns.zip ms).zipIdx.map ezI) := fun H0 O H σ e R q =>
  h H0 O H σ e _ fun vs H1 r s => by
    obtain ⟨x, y, rfl, b1, b2⟩ := (BoAll.vm s).two
    obtain ⟨p, xs, rfl, sl, al⟩ := b1.tup'
    obtain ⟨p2, ys, rfl, sl2, al2⟩ := b2.tup'
    have := al.ints
    subst this
    have := al2.ints
    subst this
    refine ⟨p, p2, _, _, rfl, (sqT_same mns_same sl).sq, (sqT_same mns_same sl2).sq, q _ H1 r ⟨(e.on r).j, ?_⟩⟩
    have el : ((ns.zip ms).zipIdx.map ezI).length = (ns.map V.int).length := by simp; omega
    rw [el]
    refine (walk_enumZ (by simpa using hl)).mono (fun H h => ⟨(h.tup (e.on r).j sl).sq, (h.tup (e.on r).j sl2).sq⟩) fun i H v H' hi g w => ?_
    obtain ⟨T2, T3, x, y, rfl, hT2, hT3, rfl, hx, hy⟩ := w
    have hi' : i < ns.length := by simpa using hi
    have hi2 : i < ms.length := by omega
    have ex : x = .int ns[i] := by simpa [hi'] using hx.symm
    have ey : y = .int ms[i] := by simpa [hi2] using hy.symm
    subst ex ey
    have sm1 : Same H (upd H T2 (.tup [.int ns[i], .int ms[i]])) := fun b o z => by rw [upd_ne (ne_of_none z hT2)]; exact z
    have sm2 : Same (upd H T2 (.tup [.int ns[i], .int ms[i]])) (upd (upd H T2 (.tup [.int ns[i], .int ms[i]])) T3 (.tup [.int (i : Nat), .ref T2])) := fun b o z => by rw [upd_ne (ne_of_none z hT3)]; exact z
    refine ⟨fun b o z => sm2 _ _ (sm1 _ _ z), ezI ((ns[i], ms[i]), i), ?_, .tup (.inl (.inl upd_same)) (.cons (.leaf (.inl ⟨rfl, .int _⟩)) (.cons (.tup (.inl (.inl (sm2 _ _ upd_same))) (.cons (.leaf (.inl ⟨rfl, .int _⟩)) (.cons (.leaf (.inl ⟨rfl, .int _⟩)) .nil))) .nil))⟩
    have ez : (ns.zip ms)[i]? = some (ns[i], ms[i]) := by rw [List.getElem?_zip_eq_some]; exact ⟨List.getElem?_eq_getElem hi', List.getElem?_eq_getElem hi2⟩
    rw [List.getElem?_map, List.getElem?_zipIdx, ez]
    simp
end
section
variable {X : Cx} {K : PySem.W.Frag} (hK : X.K = K)
include hK
theorem k_enumZ {e e2 : Expr} {ta : TA} {p pos p2 pos2 tpos : Pos} {elts : List Expr} {kk : Nat} (hg : Gl X "enumerate") (hm : X.mg "enumerate" = none) (hg2 : Gl X "zip") (hm2 : X.mg "zip" = none) (ha : PA X [e, e2] ta)
    (hs : starEach [e, e2] X.env = (false, eval e X.env) :: starEach [e2] X.env := by rfl) (hpl : (backTo pos2 (starEach [e2] X.env)).any (·.1) = false := by rfl) :
    PI X (.Tuple elts kk tpos) (.Call (.Name "enumerate" p) [.Call (.Name "zip" p2) [e, e2] [] pos2] [] pos) (iEnumZ K ta) := hK ▸ pi_enumZ hg hm hg2 hm2 ha hs hpl
end
end Lm


/-! pairs of assignments, moves, renaming and rearranging -/
namespace Lm
open PySem PySem.Spec PyProof.Rows L2
def isAsgB (x : PyData) (v b : Int) : Bool := areInts x 0 (v - 1) && decide ((lenT x : Int) = b)
theorem Asg.isAsg {ns : List Int} {v b : Int} (h : Asg ns v) (hb : (ns.length : Int) = b) : isAsgB (.tuple (ns.map .int)) v b = true := by
  unfold isAsgB
  rw [areInts_of fun n hn => ⟨(h.rng n hn).1, by have := (h.rng n hn).2; omega⟩, lenT_ints, hb]
  simp
def sp_is_assignment (K : PySem.W.Frag) : Sp := spD K fun ds k d => ∃ x v b, ds = [x, .int v, .int b] ∧ SmallT x ∧ k = .v ∧ d = .bool (isAsgB x v b)
def sp_check_pair (K : PySem.W.Frag) : Sp := spD K fun ds k d => ∃ (ns ms : List Int), ds = [.tuple (ns.map .int), .tuple (ms.map .int)] ∧ Asg ns 5 ∧ Asg ms 5 ∧ ns.length = ms.length ∧ k = .v ∧ d = .none
abbrev mvT (p : (Int × Int) × Nat) : PyData := .tuple [.int (p.2 : Nat), .int p.1.1, .int p.1.2]
def movesD (ns ms : List Int) : List PyData := ((ns.zip ms).zipIdx.filter fun p => !decide (p.1.1 = p.1.2)).map mvT
def sp_moves (K : PySem.W.Frag) : Sp := spD K fun ds k d => ∃ (ns ms : List Int), ds = [.tuple (ns.map .int), .tuple (ms.map .int)] ∧ Asg ns 5 ∧ Asg ms 5 ∧ ns.length = ms.length ∧ k = .o ∧ d = .list (movesD ns ms)
def ne1 (a b : Int) : Int := if a = b then 0 else 1
def sp_churn (K : PySem.W.Frag) : Sp := spD K fun ds k d => ∃ (ns ms : List Int), ds = [.tuple (ns.map .int), .tuple (ms.map .int)] ∧ Asg ns 5 ∧ Asg ms 5 ∧ ns.length = ms.length ∧ k = .v ∧ d = .int (zs ne1 ns ms)
theorem moves_zs : ∀ (ns ms : List Int) (n : Nat), ns.length = ms.length → (((((ns.zip ms).zipIdx n).filter fun p => !decide (p.1.1 = p.1.2)).length : Nat) : Int) = zs ne1 ns ms
  | [], [], _, _ => rfl
  | a :: ns, b :: ms, n, h => by
    have ih := moves_zs ns ms (n + 1) (by simpa using h)
    rw [zs_cons, ← ih, List.zip_cons_cons, List.zipIdx_cons, List.filter_cons]
    by_cases q : a = b
    · simp [q, ne1]
    · simp [q, ne1]
      omega
  | [], _ :: _, _, h => by simp at h
  | _ :: _, [], _, h => by simp at h
theorem movesD_len {ns ms : List Int} (h : ns.length = ms.length) : ((movesD ns ms).length : Int) = zs ne1 ns ms := by
  unfold movesD
  rw [List.length_map]
  exact moves_zs ns ms 0 h
def backI (os : List Int) : List Int := (upI 0 os.length).map fun i => (os.idxOf i : Int)
variable {ns ms os : List Int} {v m b : Int}
theorem backI_len : (backI os).length = os.length := by simp [backI, upI]
theorem IsOrd.back (o : IsOrd os m) : IsOrd (backI os) m := by
  have hl := o.len
  refine ⟨by rw [backI_len]; exact hl, ?_, fun n hn => ?_⟩
  · unfold backI
    rw [List.nodup_iff_pairwise_ne, List.pairwise_map]
    refine List.Pairwise.imp_of_mem ?_ (List.nodup_iff_pairwise_ne.mp (nodup_upI os.length))
    intro a c ha hc hne e
    have a1 := mem_upI.mp ha
    have c1 := mem_upI.mp hc
    obtain ⟨_, ga, _⟩ := o.idx (i := a) a1.1 (by omega)
    obtain ⟨_, gc, _⟩ := o.idx (i := c) c1.1 (by omega)
    have e' : os.idxOf a = os.idxOf c := by omega
    rw [e', gc] at ga
    exact hne (Option.some.inj ga).symm
  · obtain ⟨i, hi, rfl⟩ := List.mem_map.mp hn
    have a1 := mem_upI.mp hi
    obtain ⟨hj, _, _⟩ := o.idx (i := i) a1.1 (by omega)
    omega
theorem countsI_len : (countsI ns v).length = v.toNat := by simp [countsI, upI]
theorem countsI_get {i : Nat} (h : (i : Int) < v) : (countsI ns v).getD i 0 = (ns.count (i : Int) : Int) := by
  unfold countsI
  rw [List.getD_eq_getElem?_getD]
  have : i < v.toNat := by omega
  simp [upI, this]
theorem Asg.alc (h : Asg ns v) (hv : 0 ≤ v) : Alc (countsI ns v) v ns.length := by
  refine ⟨by rw [countsI_len]; omega, ?_, fun n hn => ?_⟩
  · exact count_sum v.toNat ns fun n hn => by have := h.rng n hn; omega
  · obtain ⟨i, _, rfl⟩ := List.mem_map.mp hn
    omega
theorem e_neg {c : Ct} {Γ : List (Option Rs)} {te : TE} {k : Kd} {i : Int} (h : Ev c te Γ k (.int i)) : Ev c (tUn (rU fun i => .int (-i)) te) Γ .v (.int (-i)) := fun H0 O H σ e Q q =>
  h H0 O H σ e _ fun v H1 r s => ⟨i, (Res.bo e s).int', q _ H1 r (.int _)⟩
/-- a list of data that is filled place by place with ints -/
structure DueD (ns os : List Int) (due : List PyData) (v : Int) (n : Nat) : Prop where
  len : (due.length : Int) = v
  flat : ∀ d ∈ due, flatD d = true
  got : ∀ j, j < n → due[(os.getD j 0).toNat]? = some (.int (ns.getD j 0))
theorem DueD.fl {due : List PyData} {n : Nat} (d : DueD ns os due v n) : flatAll due = true := flatAll_mem d.flat
theorem DueD.step {due : List PyData} {n : Nat} (d : DueD ns os due v n) (ho : IsOrd os v) (hn : n < os.length) : DueD ns os (due.set (os.getD n 0).toNat (.int (ns.getD n 0))) v (n + 1) := by
  have hl := d.len
  have r1 := ho.rng _ (gd_mem hn)
  have h1 : (os.getD n 0).toNat < due.length := by omega
  refine ⟨by rw [List.length_set]; exact d.len, fun x hx => ?_, fun j hj => ?_⟩
  · rcases List.mem_or_eq_of_mem_set hx with q | q
    · exact d.flat x q
    · rw [q]; rfl
  by_cases q : j = n
  · subst q
    rw [List.getElem?_set_self h1]
  · have hj' : j < n := by omega
    have hjl : j < os.length := by omega
    have r2 := ho.rng _ (gd_mem hjl)
    have ne : (os.getD n 0).toNat ≠ (os.getD j 0).toNat := fun e => by
      have e2 : os.getD j 0 = os.getD n 0 := by omega
      rw [gd_lt hn, gd_lt hjl] at e2
      exact q (nodup_inj ho.nd hjl hn e2)
    rw [List.getElem?_set_ne ne]
    exact d.got j hj'
theorem DueD.done {due : List PyData} (d : DueD ns os due v os.length) (ho : IsOrd os v) : due = (placedI ns os).map .int := by
  have hl := d.len
  have hol := ho.len
  apply List.ext_getElem
  · simp [placedI, upI]; omega
  · intro i h1 h2
    obtain ⟨hj, h3, _⟩ := ho.idx (i := (i : Int)) (by omega) (by omega)
    have g := d.got _ hj
    have e1 : os.getD (os.idxOf (i : Int)) 0 = i := by rw [List.getD_eq_getElem?_getD, h3]; rfl
    rw [e1] at g
    have e2 : ((i : Int)).toNat = i := by omega
    rw [e2, List.getElem?_eq_getElem h1] at g
    rw [Option.some.inj g]
    unfold placedI
    simp [upI]
def tupI (ns : List Int) : Im := .d (.tuple (ns.map .int))
end Lm


/-! moves that are not needed -/
namespace Lm
open PySem PySem.Spec PyProof.Rows L2
/-! ### out and in -/
def outI (i : Int) : List (Int × Int) → Int
  | [] => 0
  | p :: r => (if p.1 = i ∧ p.2 ≠ i then 1 else 0) + outI i r
def innI (i : Int) : List (Int × Int) → Int
  | [] => 0
  | p :: r => (if p.2 = i ∧ p.1 ≠ i then 1 else 0) + innI i r
theorem out_nn (i : Int) : ∀ z, 0 ≤ outI i z
  | [] => Int.le_refl _
  | p :: r => by have := out_nn i r; unfold outI; split <;> omega
theorem inn_nn (i : Int) : ∀ z, 0 ≤ innI i z
  | [] => Int.le_refl _
  | p :: r => by have := inn_nn i r; unfold innI; split <;> omega
theorem count_diff (i : Int) : ∀ {ns ms : List Int}, ns.length = ms.length → (ns.count i : Int) - ms.count i = outI i (ns.zip ms) - innI i (ns.zip ms)
  | [], [], _ => rfl
  | a :: ns, b :: ms, h => by
    have ih := count_diff i (ns := ns) (ms := ms) (by simpa using h)
    rw [List.count_cons, List.count_cons, List.zip_cons_cons]
    unfold outI innI
    by_cases h1 : a = i <;> by_cases h2 : b = i <;> simp [h1, h2] <;> omega
  | [], _ :: _, h => by simp at h
  | _ :: _, [], h => by simp at h
def neZ : List (Int × Int) → Int
  | [] => 0
  | p :: r => ne1 p.1 p.2 + neZ r
theorem zs_neZ : ∀ {ns ms : List Int}, ns.length = ms.length → zs ne1 ns ms = neZ (ns.zip ms)
  | [], [], _ => rfl
  | a :: ns, b :: ms, h => by
    rw [zs_cons, zs_neZ (by simpa using h), List.zip_cons_cons]
    rfl
  | [], _ :: _, h => by simp at h
  | _ :: _, [], h => by simp at h
theorem ind_sum (p : Int × Int) : ∀ l : List Int, (l.map fun i => if p.1 = i ∧ p.2 ≠ i then (1 : Int) else 0).sum = if p.1 = p.2 then 0 else (l.count p.1 : Int)
  | [] => by simp
  | a :: l => by
    rw [List.map_cons, List.sum_cons, ind_sum p l, List.count_cons]
    by_cases h1 : p.1 = p.2
    · rw [if_pos h1, if_pos h1, if_neg (fun z => z.2 (h1.symm.trans z.1))]
      rfl
    · rw [if_neg h1, if_neg h1]
      by_cases h2 : p.1 = a
      · have h3 : p.2 ≠ a := fun z => h1 (h2.trans z.symm)
        rw [if_pos ⟨h2, h3⟩, if_pos (beq_iff_eq.mpr h2.symm)]
        omega
      · rw [if_neg (fun z => h2 z.1), if_neg (fun z => h2 (beq_iff_eq.mp z).symm)]
        omega
theorem sum_add (f g : Int → Int) : ∀ l : List Int, (l.map fun i => f i + g i).sum = (l.map f).sum + (l.map g).sum
  | [] => rfl
  | a :: l => by
    simp only [List.map_cons, List.sum_cons]
    rw [sum_add f g l]
    omega
theorem sum_zero : ∀ l : List Int, (l.map fun _ => (0 : Int)).sum = 0
  | [] => rfl
  | a :: l => by rw [List.map_cons, List.sum_cons, sum_zero l]; rfl
theorem out_sum (v : Nat) : ∀ {z : List (Int × Int)}, (∀ p ∈ z, 0 ≤ p.1 ∧ p.1 < (v : Int)) → ((upI 0 v).map fun i => outI i z).sum = neZ z
  | [], _ => sum_zero _
  | p :: r, h => by
    have ih := out_sum v (z := r) fun q hq => h q (by simp [hq])
    have hp := h p (by simp)
    have e : ((upI 0 v).map fun i => outI i (p :: r)) = (upI 0 v).map fun i => (if p.1 = i ∧ p.2 ≠ i then (1 : Int) else 0) + outI i r := rfl
    rw [e, sum_add (fun i => if p.1 = i ∧ p.2 ≠ i then (1 : Int) else 0) (fun i => outI i r), ih, ind_sum, upI_count hp.1 hp.2]
    show _ = ne1 p.1 p.2 + neZ r
    unfold ne1
    by_cases q : p.1 = p.2
    · rw [if_pos q, if_pos q]
    · rw [if_neg q, if_neg q]; rfl
theorem sum_eq_iff {a b : Int → Int} : ∀ {l : List Int}, (∀ i ∈ l, a i ≤ b i) → ((l.map a).sum ≤ (l.map b).sum) ∧ ((l.map b).sum = (l.map a).sum ↔ ∀ i ∈ l, b i = a i)
  | [], _ => ⟨Int.le_refl _, by simp⟩
  | x :: l, h => by
    obtain ⟨h1, h2⟩ := sum_eq_iff (l := l) fun i hi => h i (by simp [hi])
    have hx := h x (by simp)
    simp only [List.map_cons, List.sum_cons]
    refine ⟨by omega, ⟨fun e i hi => ?_, fun e => ?_⟩⟩
    · rcases List.mem_cons.mp hi with q | q
      · rw [q]; omega
      · exact h2.mp (by omega) i q
    · have := e x (by simp)
      have := h2.mpr fun i hi => e i (by simp [hi])
      omega
variable {ns ms : List Int} {v : Int}
theorem trI_counts (hv : 0 ≤ v) : trI (countsI ns v) (countsI ms v) = ((upI 0 v.toNat).map fun i => t0 (ns.count i) (ms.count i)).sum := by
  rw [trI_up (by rw [countsI_len, countsI_len]), countsI_len]
  congr 1
  apply List.map_congr_left
  intro i hi
  have r := mem_upI.mp hi
  obtain ⟨j, rfl⟩ := Int.eq_ofNat_of_zero_le r.1
  have e : ((j : Int)).toNat = j := by omega
  rw [e, countsI_get (by omega), countsI_get (by omega)]
def sp_check_variants (K : PySem.W.Frag) : Sp := spD K fun ds k d => ∃ v : Int, ds = [.int v] ∧ 1 ≤ v ∧ v ≤ 5 ∧ k = .v ∧ d = .none
/-! ### lists with drawn items, drawn places -/
section
variable {c : Ct} {Γ : List (Option Rs)} {ta tb : TE} {k ka kb : Kd} {x : PyData}
end
end Lm


/-! sorted of a tuple of ints; zip of three with one name as target -/
namespace Lm
open PySem PySem.Spec PyProof.Rows L2
section
variable {prog : Program} {w : World} {A : Around} {E : Value → Shared → Prop} {s : Shared}
theorem collectT {l : Addr} {vs : List Value} {Q : List Value → Shared → Prop} (hl : s.heap.IsTuple l vs.toArray)
    (h : Q vs { s with heap := (s.heap.push (seqObj "list" #[] 0)).update s.heap.objs.size (Obj.mapSeq (· ++ vs.toArray)) }) (hsz : vs.length ≤ sizeLine) :
    wpAny (model prog w) A (collect (.ref l)) Q E s := by
  obtain ⟨o, ho, hc, n, hd⟩ := id hl
  unfold collect
  refine wpAny_bind (wpAny_runValue (codeAny_builtin entry_proto_collect' ?_))
  show wpAny _ _ (do again (.builtin "list.__iadd__" ⟨[← newList [], .ref l], []⟩)) _ _ s
  refine wpAny_bind (wpAny_newList (wpAny_pure ⟨Code.quiet_builtin _ (by decide +kernel), codeAny_builtin entry_list_iadd' ?_⟩))
  show wpAny _ _ (Builtin.List.listExtendWith (.ref s.heap.objs.size) (.ref l) (.ref s.heap.objs.size)) _ _ { s with heap := s.heap.push (seqObj "list" #[] 0) }
  unfold Builtin.List.listExtendWith
  have ho' : (s.heap.push (seqObj "list" #[] 0)).get? l = some o := Heap.get?_push_of_some _ ho
  have hn : (s.heap.push (seqObj "list" #[] 0)).get? s.heap.objs.size = some (seqObj "list" #[] 0) := Heap.get?_push_size _ rfl
  refine wpAny_bind (wpAny_typeOf (T := "tuple") ⟨o, ho', hc⟩ ?_)
  have ht : (Value.type "tuple" == Value.type "tuple") = true := by rfl
  rw [if_pos (by rw [ht]; simp)]
  refine wpAny_bind (listItems_at ho' hd (wpAny_bind (listItems_at (xs := #[]) (n := 0) hn rfl ?_)))
  rw [if_neg (by simp)]
  refine wpAny_bind (listUpdate_at (xs := #[]) (n := 0) hn rfl ?_ (Nat.zero_le _) (by show (#[] ++ vs.toArray).size ≤ sizeLine + 1; simp only [Array.size_append, List.size_toArray, List.length_nil]; omega))
  refine wpAny_pure ?_
  show wpAny (model prog w) A (do
      let o ← load s.heap.objs.size
      match o.data with
      | .seq xs _ => pure xs.toList
      | _ => unsupported "internal:collect") Q E { s with heap := (s.heap.push (seqObj "list" #[] 0)).update s.heap.objs.size (Obj.mapSeq (· ++ vs.toArray)) }
  refine wpAny_bind (wpAny_load (get?_update_seq hn _) ?_)
  show wpAny _ _ (pure ((#[] : Array Value) ++ vs.toArray).toList) Q E _
  rw [show ((#[] : Array Value) ++ vs.toArray).toList = vs by simp]
  exact wpAny_pure h
theorem sortedT {l : Addr} {vs : List Value} {ns : List Int} {Q : Value → Shared → Prop} (hl : s.heap.IsTuple l vs.toArray) (hI : IntsAre vs ns) (h64 : vs.length < 64)
    (h : ∀ (out : Array Value) (ns' : List Int), IntsAre out.toList ns' → ns'.Perm ns → ns'.Pairwise (· ≤ ·) → Q (.ref (s.heap.objs.size + 1)) { s with heap := sortedAll s.heap vs out }) :
    wpAny (model prog w) A (call (.builtin "sorted") [.ref l]) Q E s := by
  refine Calls.call_function_entry kind_sorted plain_sorted entry_sorted (args_sorted1 _) ?_
  unfold Builtin.«sorted»
  refine wpAny_bind (m := checkCount "sorted" 1 1 _) (wpAny_pure (wpAny_bind (collectT hl ?_ (by rw [sizeLine_eq]; omega))))
  refine wpAny_bind (wpAny_newList ?_)
  have hsz : ((s.heap.push (seqObj "list" #[] 0)).update s.heap.objs.size (Obj.mapSeq (· ++ vs.toArray))).objs.size = s.heap.objs.size + 1 := by
    rw [Heap.size_update, size_push']
  have hoL : (((s.heap.push (seqObj "list" #[] 0)).update s.heap.objs.size (Obj.mapSeq (· ++ vs.toArray))).push (seqObj "list" vs.toArray 0)).get? (s.heap.objs.size + 1) = some (seqObj "list" vs.toArray 0) := by
    rw [← hsz]; exact Heap.get?_push_size _ rfl
  show wpAny _ _ _ _ _ { s with heap := ((s.heap.push (seqObj "list" #[] 0)).update s.heap.objs.size (Obj.mapSeq (· ++ vs.toArray))).push (seqObj "list" vs.toArray 0) }
  rw [hsz]
  refine wpAny_bind (wpAny_holding (wpAny_call_entry PyProof.Rows.slot_list_sort ⟨_, hoL, rfl⟩ PyProof.Rows.entry_list_sort (list_sort_tree hoL hI h64 fun out ns' a1 a2 a3 => ⟨_, rfl, ?_⟩) (PyProof.Rows.args_list_sort _)))
  exact wpAny_pure ⟨_, rfl, h out ns' a1 a2 a3⟩
end
def rSortedT (K : PySem.W.Frag) : List V → Hp → VK → Prop := fun vs H Q => ∃ (a : Addr) (ns : List Int), vs = [V.ref a] ∧ SqT K H a (ns.map V.int) ∧ ns.length < 64 ∧
  ∀ (ns' : List Int) (p : Addr), ns'.Perm ns → ns'.Pairwise (· ≤ ·) → H p = none → Q (.ref p) (upd H p (.lst (ns'.map V.int)))
section
variable {X : Cx}
theorem cr_sortedT : CallR X (.builtin "sorted") (rSortedT X.K) := by
  intro pins s σ H vs us Q I r h
  obtain ⟨a, ns, rfl, hs, h64, q⟩ := h
  obtain ⟨its, rv, hl, _⟩ := I.tuple hs
  rw [Vals.ref1 r]
  have hi := ints_of_vals rv
  refine sortedT (show s.heap.IsTuple a its.toArray from hl) hi (by rw [hi.length]; exact h64) fun out ns' h1 h2 h3 => ?_
  obtain ⟨ep, he'⟩ := PyProof.Rows.sortedAll_at s.heap its out
  have hlen : (ns'.map V.int).length ≤ sizeLine := by rw [List.length_map, h2.length_eq]; exact small64 h64
  exact ⟨.ref _, upd H (s.heap.objs.size + 1) (.lst (ns'.map V.int)), I.laid (t' := s.toks) (fun _ _ => PyProof.Rows.sortedAll_old) (Nat.le_succ _) ⟨hlen, out.toList, ep, vals_of_ints h1, he'⟩, rfl, q ns' _ h2 h3 (I.hok.fresh (Nat.le_succ _))⟩
def rSortedA (K : PySem.W.Frag) : List V → Hp → VK → Prop := fun vs H Q => rSorted K vs H Q ∨ rSortedT K vs H Q
theorem k_sorted {K : PySem.W.Frag} (hK : X.K = K) : CallR X (.builtin "sorted") (rSortedA K) := hK ▸ cr_sorted.or cr_sortedT
end
section
variable {c : Ct} {Γ : List (Option Rs)} {te : TE} {k : Kd}
/-- sorted(t): a new list -/
theorem n_sortedT {ns : List Int} (h : Ev c te Γ k (.tuple (ns.map .int))) (hl : ns.length < 64) : EvN c (tCB (rSortedA c.K) (tCons te tNil)) Γ .o (fun d => ∃ ns' : List Int, d = .list (ns'.map .int) ∧ ns'.Perm ns ∧ ns'.Pairwise (· ≤ ·)) := fun H0 O H σ e Q q =>
  h H0 O H σ e _ fun v H1 r s => by
    obtain ⟨p, xs, rfl, sl, al⟩ := (Res.bo e s).tup'
    have := al.ints
    subst this
    refine .inr ⟨p, ns, rfl, sl.sq, hl, fun ns' p' h1 h2 hp => ?_⟩
    have sm : Same H1 (upd H1 p' (.lst (ns'.map V.int))) := fun b u z => by rw [upd_ne (ne_of_none z hp)]; exact z
    exact q _ _ _ ⟨ns', rfl, h1, h2⟩ (r.tr (Rr.same sm)) ⟨[p'], .lst upd_same (FoAll.leaves (flatAll_ints _) (BoAll.ofInts _)), by simp, fun a ha => by
      cases List.mem_singleton.mp ha
      exact r.back e.jH hp⟩
end
/-! ### zip of three -/
section
variable {prog : Program} {w : World} {A : Around} {E : Value → Shared → Prop} {s : Shared} {z TI TO i1 i2 i3 : Addr} {fp1 fp2 fp3 : List Addr} {n1 n2 n3 i : Nat} {P1 P2 P3 : Nat → Value → Prop} {St1 St2 St3 : Nat → Heap → Prop} {a1 a2 a3 : Value} {b : Bool} {x : Value}
end
section
variable {prog : Program} {w : World} {A : Around} {E : Value → Shared → Prop} {s : Shared}
theorem next_zip {z TI TO : Addr} {x : Value} {b : Bool} {Q : Option Value → Shared → Prop} (hz : IsZipX s.heap z TI TO x b)
    (h : ∀ E' : Value → Shared → Prop, wpAny (model prog w) A.in1 (Builtin.«zip.__next__» ⟨[.ref z], []⟩) (fun fin s' => ∃ v, fin = .done (.ret v) ∧ Q (some v) s') E' s) : wpAny (model prog w) A (pyNext (.ref z)) Q E s := by
  have hT : s.TypeIs (.ref z) "zip" := ⟨_, hz, rfl⟩
  unfold pyNext
  refine wpAny_bind (wpAny_attempt (wpAny_callSpecial?_slot (name := Str.ofString "__next__") hT F.slot_zip_next
    (wpAny_call_entry F.slot_zip_next hT F.entry_zip_next ?_ (F.args_zip_next_1 _))))
  refine wpAny_mono (h _) (fun fin s' ⟨v, e, q⟩ => ?_) fun _ _ y => y
  subst e
  exact ⟨v, rfl, wpAny_pure q⟩
end
end Lm


/-! the least churn is what goes over -/
namespace Lm
open PySem PySem.Spec PyProof.Rows L2
variable {f g h ns ms : List Int} {v : Int}
/-- the churn is never less than what goes over -/
theorem churn_ge (hf : Asg f v) (hg : Asg g v) (hl : f.length = g.length) (hv : 0 ≤ v) : trI (countsI f v) (countsI g v) ≤ zs ne1 f g := by
  have rz : ∀ p ∈ f.zip g, 0 ≤ p.1 ∧ p.1 < v := fun p hp => hf.rng _ (List.of_mem_zip hp).1
  rw [zs_neZ hl, ← out_sum v.toNat (z := f.zip g) (fun p hp => by have := rz p hp; omega), trI_counts hv]
  refine (sum_eq_iff fun i _ => ?_).1
  have := count_diff i hl
  have := out_nn i (f.zip g)
  have := inn_nn i (f.zip g)
  unfold t0
  split <;> omega
/-- all assignments of n buckets to v variants -/
def allL (v : Int) : Nat → List (List Int)
  | 0 => [[]]
  | n + 1 => (allL v n).flatMap fun r => (upI 0 v.toNat).map fun x => r ++ [x]
theorem mem_allL (hv : 0 ≤ v) : ∀ (n : Nat) (r : List Int), r ∈ allL v n ↔ r.length = n ∧ ∀ x ∈ r, 0 ≤ x ∧ x < v
  | 0, r => by
    constructor
    · intro h
      have : r = [] := by simpa [allL] using h
      subst this
      exact ⟨rfl, fun _ h => nomatch h⟩
    · rintro ⟨h, _⟩
      rw [List.eq_nil_of_length_eq_zero h]
      simp [allL]
  | n + 1, r => by
    unfold allL
    rw [List.mem_flatMap]
    constructor
    · rintro ⟨q, hq, h⟩
      obtain ⟨x, hx, rfl⟩ := List.mem_map.mp h
      obtain ⟨h1, h2⟩ := (mem_allL hv n q).mp hq
      refine ⟨by simp [h1], fun y hy => ?_⟩
      rcases List.mem_append.mp hy with w | w
      · exact h2 y w
      · rw [List.mem_singleton.mp w]
        have := mem_upI.mp hx
        omega
    · rintro ⟨h1, h2⟩
      have hne : r ≠ [] := fun z => by rw [z] at h1; simp at h1
      refine ⟨r.dropLast, (mem_allL hv n _).mpr ⟨by rw [List.length_dropLast]; omega, fun x hx => h2 x (List.dropLast_subset r hx)⟩, List.mem_map.mpr ⟨r.getLast hne, mem_upI.mpr ?_, List.dropLast_concat_getLast hne⟩⟩
      have := h2 _ (List.getLast_mem hne)
      omega
end Lm


/-! a list handed from one name to another, list.extend, tuples put together, all assignments -/
namespace Lm
open PySem PySem.Spec PyProof.Rows L2
section
variable {c : Ct} {H H' H0 H1 H2 H3 : Hp} {O : List Addr} {σ : L2.St} {Γ Γ' Γ1 : List (Option Rs)}
variable {te ta tb : TE} {k ka kb : Kd} {d : PyData} {i j : Int} {ds es : List PyData} {u : TS} {P : Out → Prop} {n m : Nat}
/-- t + u -/
theorem e_catT (ha : Ev c ta Γ .v (.tuple ds)) (hb : Ev c tb Γ .v (.tuple es)) (hl : ds.length + es.length ≤ 1000000) : Ev c (tOp (rAddA c.K) ta tb) Γ .v (.tuple (ds ++ es)) := fun H0 O H σ e Q q =>
  ha H0 O H σ e _ fun v H1 r1 s1 => hb H0 O H1 σ (e.on r1) _ fun u H2 r2 s2 => by
    have bv : Bo c (mns H2 O) v (.tuple ds) := Res.on e r1 r2 s1
    have bu : Bo c (mns H2 O) u (.tuple es) := s2
    obtain ⟨p, xs, rfl, s, al⟩ := Bo.tup' bv
    obtain ⟨p2, ys, rfl, s', al'⟩ := Bo.tup' bu
    refine .inr (.inl ⟨p, p2, xs, ys, rfl, rfl, (sqT_same mns_same s).sq, (sqT_same mns_same s').sq, by rw [al.len, al'.len]; exact sizeOk hl, fun hx => ?_, fun hx hy => ?_, fun _ _ => newTk (c := c) fun q' H3 hp sm tp => ?_⟩)
    · subst hx
      cases al
      exact q _ H2 (r1.tr r2) bu
    · subst hy
      cases al'
      exact q _ H2 (r1.tr r2) (by show Bo c (mns H2 O) _ _; rw [List.append_nil]; exact bv)
    · have r3 : Rr c H2 H3 := Rr.same sm
      have e2 := (e.on r1).on r2
      exact q _ H3 ((r1.tr r2).tr r3) (.tup (tpN_mns e2 r3 tp) ((al.app al').mono e2.j (r3.mns e2.j e2.okO)))
/-- xs.extend(a new list of flat things) -/
theorem s_ext (hx : Γ[n]? = some (some (.o (.list ds)))) (h : Ev c te Γ .o (.list es)) (hf : flatAll es = true) (hl : ds.length + es.length ≤ 1000000) (p : P (.nx (Γ.set n (some (.o (.list (ds ++ es))))))) : Sd c (tDrop (tBM c.K "list" rExtend (tVar n) (tCons te tNil))) Γ P := fun H0 O H σ D e s => by
  obtain ⟨q, xs, f, hq, hp, fa, qf, qO, _⟩ := e.write (es := ds ++ es) hx
  refine ⟨.ref q, hq, .inl ⟨rfl, xs, .inl (.inl hp)⟩, h H0 O H σ e _ fun v H2 r rs => ?_⟩
  obtain ⟨fp, fo, nd, new⟩ := rs
  obtain ⟨b, zs, g, rfl, rfl, hb, fb⟩ := fo.list'
  obtain ⟨_, bb⟩ := fb.flat0 hf
  have e2 := e.on r
  obtain ⟨q', xs', f', hq', hp', fa', qf', qO', wr⟩ := e2.write (es := ds ++ es) hx
  have : q' = q := by rw [hq] at hq'; cases hq'; rfl
  subst this
  have lx : xs'.length = ds.length := (fa'.bo fun a ha => e.okO a (qO' a ha)).len
  refine ⟨q', b, xs', zs, rfl, rfl, hp', hb, by rw [lx, bb.len]; exact sizeOk hl, s _ p O _ σ (wr (xs' ++ zs) ?_)⟩
  have := fa'.app (FoAll.leaves hf bb)
  rw [List.append_nil] at this
  exact this.up (fun _ _ s => sqT_upd hp' s) fun a ha o z => by
    have : a ≠ q' := fun w => qf' (w ▸ ha)
    rw [upd_ne this]; exact z
end
abbrev tupD (r : List Int) : PyData := .tuple (r.map .int)
end Lm


/-! own lists within an own list: rows[i][j] = .. -/
namespace Lm
open PySem PySem.Spec PyProof.Rows L2
variable {c : Ct} {H H' H0 H1 H2 H3 : Hp} {O : List Addr} {σ : L2.St} {Γ Γ' Γ1 : List (Option Rs)}
theorem FoAll.nth : ∀ {xs : List V} {ds : List PyData} {f : List Addr} {i : Nat} {d : PyData}, FoAll c H xs ds f → ds[i]? = some d →
    ∃ x g pre post, xs[i]? = some x ∧ Fo c H x d g ∧ f = pre ++ (g ++ post) ∧ ∀ (H' : Hp) (x' : V) (d' : PyData) (g' : List Addr), (∀ a xs, TpN c.K H a xs → TpN c.K H' a xs) → (∀ a ∈ pre ++ post, ∀ o, H a = some o → H' a = some o) → Fo c H' x' d' g' →
      FoAll c H' (xs.set i x') (ds.set i d') (pre ++ (g' ++ post))
  | _, _, _, _, _, .nil, h => by simp at h
  | _, _, _, 0, d, .cons (v := v) (f := f) (fs := fs) a b, h => by
    have e : _ = d := Option.some.inj h
    subst e
    exact ⟨v, f, [], fs, rfl, a, rfl, fun H' x' d' g' hT hk fo => FoAll.cons (f := g') (fs := fs) fo (b.up hT fun y hy => hk y (by simpa using hy))⟩
  | _, _, _, i + 1, d, .cons (v := v) (f := f) (fs := fs) a b, h => by
    obtain ⟨x, g, pre, post, h1, h2, h3, h4⟩ := FoAll.nth (i := i) b (by simpa using h)
    refine ⟨x, g, f ++ pre, post, by simpa using h1, h2, by rw [h3, List.append_assoc], fun H' x' d' g' hT hk fo => ?_⟩
    have r := h4 H' x' d' g' hT (fun y hy o z => hk y (by simp at hy ⊢; rcases hy with w | w <;> simp [w]) o z) fo
    rw [List.append_assoc]
    exact .cons (a.up hT fun y hy => hk y (by simp [hy])) r
end Lm


/-! states, their ways -/
namespace Lm
open PySem PySem.Spec PyProof.Rows L2
section
variable {X : Cx}
end
section
variable {c : Ct} {Γ : List (Option Rs)} {te ta tb : TE} {k ka kb : Kd} {u : TS} {P : Out → Prop} {n : Nat} {i j : Int}
end
/-- a state whose ways can be counted -/
structure StOk (ns ls es : List Int) : Prop where
  len : ns.length = ls.length
  l1 : ns.length ≤ 1000
  l2 : es.length ≤ 1000
  le : ∀ p ∈ ns.zip ls, 0 ≤ p.2 ∧ p.2 ≤ p.1 ∧ p.1 ≤ 20
  nn : ∀ e ∈ es, 0 ≤ e
  sum : es.sum ≤ 20
end Lm


/-! how many ways there are, told with factorials -/
namespace Lm
open PySem PySem.Spec PyProof.Rows L2
section
variable {cs as : List Int} (hl : cs.length = as.length) (hc : ∀ n ∈ cs, 0 ≤ n) (ha : ∀ n ∈ as, 0 ≤ n)
include hl hc ha
end
theorem shapedL (ns : List Int) : SeqAt.shaped (.list (ns.map .int)) = true := by
  simp [SeqAt.shaped, PyData.canLay0, PyData.canLayAll0, PyData.depth, PyData.depthAll, PySem.W.ke_canLayAll0, PySem.W.ke_depthAll]
theorem e_eqLL {c : Ct} {Γ : List (Option Rs)} {ta tb : TE} {ka kb : Kd} {ns ms : List Int} (ha : Ev c ta Γ ka (.list (ns.map .int))) (hb : Ev c tb Γ kb (.list (ms.map .int))) : Ev c (tOp (rEqA c.K) ta tb) Γ .v (.bool (decide (ns = ms))) :=
  (e_eqD ha hb (shapedL _) (shapedL _)).to (by simp only [PyData.eqv]; rw [PySem.W.ked_eqvAll])
end Lm


/-! slices of tuples; min and max of lists; sorted of lists; int of a truth; sums over three lists: what is in the middle -/
namespace Lm
open PySem PySem.Spec PyProof.Rows L2
section
variable {X : Cx} {K : PySem.W.Frag} (hK : X.K = K)
include hK
theorem k_min (hc : X.calm = true) : CallR X (.builtin "min") (rMin K) := hK ▸ cr_min hc
end
variable {c : Ct} {H H' H0 H1 H2 H3 : Hp} {O : List Addr} {Γ Γ' Γ1 : List (Option Rs)}
variable {te ta tb tx : TE} {tl th : TO} {k ka kb : Kd} {d x y z : PyData} {i j : Int} {a b : Bool} {ds es : List PyData}
def Eo (c : Ct) (t : TO) (Γ : List (Option Rs)) (o : Option Int) : Prop :=
  ∀ H0 O H σ, Env c H0 O H σ Γ → ∀ Q : Option Int → Hp → Prop, (∀ H2, Rr c H H2 → Q o H2) → t σ H Q
theorem o_none : Eo c tNoPart Γ none := fun H0 O H σ e Q q => q H Rr.rf
theorem o_some (h : Ev c te Γ k (.int i)) : Eo c (tPart te) Γ (some i) := fun H0 O H σ e Q q => h H0 O H σ e _ fun v H2 r s => ⟨i, (Res.bo e s).int', q H2 r⟩
def cutD {α : Type} (ds : List α) (lo hi : Option Int) : List α := (ds.drop (HT.sIx ds.length 0 lo)).take (HT.sIx ds.length ds.length hi - HT.sIx ds.length 0 lo)
theorem BoAll.cut {vs : List V} {lo hi : Option Int} (h : BoAll c H vs ds) : BoAll c H (cutV vs lo hi) (cutD ds lo hi) := by
  unfold cutV cutD
  rw [h.len]
  exact (h.drop _).take _
theorem e_sl {lo hi : Option Int} (h : Ev c te Γ .v (.tuple ds)) (h1 : Eo c tl Γ lo) (h2 : Eo c th Γ hi) : Ev c (tSl (rSlN c.K) te tl th) Γ .v (.tuple (cutD ds lo hi)) := fun H0 O H σ e Q q =>
  h H0 O H σ e _ fun v H1 r1 s1 => h1 H0 O H1 σ (e.on r1) _ fun H2 r2 => h2 H0 O H2 σ ((e.on r1).on r2) _ fun H3 r3 => by
    have r : Rr c H H3 := (r1.tr r2).tr r3
    obtain ⟨p, xs, rfl, s, al⟩ := Bo.tup' (Res.on e r1 (r2.tr r3) s1)
    refine ⟨p, xs, rfl, (sqT_same mns_same s).sq, fun w => ?_, fun _ => newTk (c := c) fun p' H4 hp sm tp => ?_⟩
    · refine q (.ref p) H3 r ?_
      have e1 : cutD ds lo hi = ds := by
        unfold cutD
        rw [← al.len, w.1, w.2, al.len]
        simp
      rw [e1]
      exact .tup s al
    · have r4 : Rr c H H4 := r.tr (Rr.same sm)
      exact q _ H4 r4 (.tup (tpN_mns e r4 tp) (al.cut.mono (e.on r).j ((Rr.same sm : Rr c H3 H4).mns (e.on r).j e.okO)))
theorem cutD_lo {α : Type} {ds : List α} {t : Nat} (h : t ≤ ds.length) : cutD ds (some (t : Int)) none = ds.drop t := by
  unfold cutD
  rw [HT.sIx_nat, HT.sIx_none, Nat.min_eq_left h]
  apply List.take_of_length_le
  simp
/-! min and max of a list -/
def mnL : List Int → Int
  | [] => 0
  | [n] => n
  | n :: m :: ns => if mnL (m :: ns) < n then mnL (m :: ns) else n
theorem mnL_mem : ∀ {ns : List Int}, 0 < ns.length → mnL ns ∈ ns
  | [n], _ => by simp [mnL]
  | n :: m :: ns, _ => by
    have := mnL_mem (ns := m :: ns) (by simp)
    unfold mnL
    split
    · exact List.mem_cons_of_mem _ this
    · simp
theorem mnL_le : ∀ {ns : List Int}, ∀ y ∈ ns, mnL ns ≤ y
  | [], _, h => nomatch h
  | [n], y, h => by rw [List.mem_singleton.mp h]; exact Int.le_refl _
  | n :: m :: ns, y, h => by
    unfold mnL
    rcases List.mem_cons.mp h with q | q
    · subst q; split <;> omega
    · have := mnL_le (ns := m :: ns) y q
      split <;> omega
def mxL : List Int → Int
  | [] => 0
  | [n] => n
  | n :: m :: ns => if mxL (m :: ns) > n then mxL (m :: ns) else n
theorem mxL_mem : ∀ {ns : List Int}, 0 < ns.length → mxL ns ∈ ns
  | [n], _ => by simp [mxL]
  | n :: m :: ns, _ => by
    have := mxL_mem (ns := m :: ns) (by simp)
    unfold mxL
    split
    · exact List.mem_cons_of_mem _ this
    · simp
theorem mxL_le : ∀ {ns : List Int}, ∀ y ∈ ns, y ≤ mxL ns
  | [], _, h => nomatch h
  | [n], y, h => by rw [List.mem_singleton.mp h]; exact Int.le_refl _
  | n :: m :: ns, y, h => by
    unfold mxL
    rcases List.mem_cons.mp h with q | q
    · subst q; split <;> omega
    · have := mxL_le (ns := m :: ns) y q
      split <;> omega
theorem e_minL {ns : List Int} (h : Ev c te Γ k (.list (ns.map .int))) (hl : 0 < ns.length) : Ev c (tCB (rMin c.K) (tCons te tNil)) Γ .v (.int (mnL ns)) := fun H0 O H σ e Q q =>
  h H0 O H σ e _ fun v H1 r s => by
    obtain ⟨p, xs, rfl, _, sl, al⟩ := (Res.bo e s).lst'
    have := al.ints
    subst this
    refine ⟨p, ns, rfl, sl, hl, fun m h1 h2 => ?_⟩
    have e1 : m = mnL ns := by
      have := h2 _ (mnL_mem hl)
      have := mnL_le m h1
      omega
    rw [e1]
    exact q _ H1 r (.int _)
/-! sums over three lists -/
def z3 (F : Int → Int → Int → Int) (as bs cs : List Int) : Int := ((List.range as.length).map fun j => F (as.getD j 0) (bs.getD j 0) (cs.getD j 0)).sum
variable {F : Int → Int → Int → Int} {as bs cs as' bs' cs' : List Int}
variable {f g h : List Int} {v m : Int}
end Lm


/-! states, what can come next, and the ways on: the least changes -/
namespace Lm
open PySem PySem.Spec PyProof.Rows L2
abbrev gI (l : List Int) (i : Int) : Int := l.getD i.toNat 0
def lssI (p : Int) (l : List Int) : List Int := l.set p.toNat (gI l p - 1)
structure S3 where
  c : List Int
  l : List Int
  e : List Int
def optI (S : S3) (o : Int) : List Int :=
  if gI S.l o = 0 then [o] else (upI 0 S.e.length).filter fun i => decide (0 < gI S.e i) || (decide (i = o) && decide (gI S.l o < gI S.c o))
def aftI (S : S3) (o n : Int) : S3 := if n = o then ⟨lssI o S.c, S.l, S.e⟩ else ⟨lssI o S.c, lssI o S.l, lssI n S.e⟩
theorem dec_len {p : Int} {l : List Int} : (lssI p l).length = l.length := by simp [lssI]
theorem dec_get {p i v : Int} {l : List Int} (hl : (l.length : Int) = v) (hp : 0 ≤ p ∧ p < v) (hi : 0 ≤ i ∧ i < v) : gI (lssI p l) i = gI l i - (if p = i then 1 else 0) := by
  unfold gI lssI
  rw [List.getD_eq_getElem?_getD, List.getElem?_set]
  by_cases q : p = i
  · subst q
    rw [if_pos rfl, if_pos rfl, if_pos (by omega)]
    rfl
  · rw [if_neg (by omega), if_neg q, ← List.getD_eq_getElem?_getD]
    omega
theorem sum_setI {x : Int} : ∀ {l : List Int} {k : Nat}, k < l.length → (l.set k x).sum = l.sum - l.getD k 0 + x
  | [], _, h => by simp at h
  | a :: l, 0, _ => by
    show (x :: l).sum = (a :: l).sum - a + x
    rw [List.sum_cons, List.sum_cons]; omega
  | a :: l, k + 1, h => by
    have := sum_setI (l := l) (k := k) (x := x) (by simpa using h)
    show (a :: l.set k x).sum = (a :: l).sum - l.getD k 0 + x
    rw [List.sum_cons, List.sum_cons]; omega
theorem dec_sum {p v : Int} {l : List Int} (hl : (l.length : Int) = v) (hp : 0 ≤ p ∧ p < v) : (lssI p l).sum = l.sum - 1 := by
  unfold lssI
  rw [sum_setI (by omega)]
  unfold gI
  omega
/-- a state that stands before the buckets f -/
structure St (v : Int) (S : S3) (f : List Int) : Prop where
  cl : (S.c.length : Int) = v
  ll : (S.l.length : Int) = v
  el : (S.e.length : Int) = v
  cs : ∀ i, 0 ≤ i ∧ i < v → gI S.c i = f.count i
  ls : ∀ i, 0 ≤ i ∧ i < v → 0 ≤ gI S.l i ∧ gI S.l i ≤ f.count i
  es : ∀ i, 0 ≤ i ∧ i < v → 0 ≤ gI S.e i ∧ (gI S.l i = 0 ∨ gI S.e i = 0)
  sum : S.l.sum = S.e.sum
  rng : ∀ n ∈ f, 0 ≤ n ∧ n < v
/-- the buckets f become g, with what the state tells -/
structure Fit (v : Int) (S : S3) (f g : List Int) : Prop where
  len : g.length = f.length
  rng : ∀ n ∈ g, 0 ≤ n ∧ n < v
  out : ∀ i, 0 ≤ i ∧ i < v → outI i (f.zip g) = gI S.l i
  inn : ∀ i, 0 ≤ i ∧ i < v → innI i (f.zip g) = gI S.e i
variable {v o n : Int} {S : S3} {f g : List Int}
theorem out_le (i : Int) : ∀ {f g : List Int}, outI i (f.zip g) ≤ f.count i
  | [], _ => by simp [outI]
  | a :: f, [] => by simp [outI]
  | a :: f, b :: g => by
    have := out_le i (f := f) (g := g)
    rw [List.zip_cons_cons, List.count_cons]
    unfold outI
    by_cases h : a = i
    · subst h; simp; split <;> omega
    · rw [if_neg (fun z => h z.1), if_neg (by simpa using h)]; omega
theorem mem_opt (h : St v S (o :: f)) : n ∈ optI S o ↔ (0 ≤ n ∧ n < v) ∧ (if n = o then gI S.l o < gI S.c o else gI S.l o ≠ 0 ∧ 0 < gI S.e n) := by
  have ho := h.rng o (by simp)
  have c1 := h.cs o ho
  have c2 := h.es o ho
  have c3 := h.ls o ho
  have cp : 0 < (o :: f).count o := by simp
  unfold optI
  by_cases q : gI S.l o = 0
  · rw [if_pos q, List.mem_singleton]
    by_cases w : n = o
    · rw [if_pos w]
      exact ⟨fun _ => ⟨by omega, by omega⟩, fun _ => w⟩
    · rw [if_neg w]
      exact ⟨fun z => absurd z w, fun z => absurd q z.2.1⟩
  · rw [if_neg q, List.mem_filter, mem_upI]
    have el := h.el
    by_cases w : n = o
    · subst w
      rw [if_pos rfl]
      have e0 : gI S.e n = 0 := by rcases c2.2 with z | z; exact absurd z q; exact z
      simp only [e0]
      constructor
      · rintro ⟨h1, h2⟩
        exact ⟨by omega, by simpa using h2⟩
      · rintro ⟨h1, h2⟩
        exact ⟨by omega, by simpa using h2⟩
    · rw [if_neg w]
      constructor
      · rintro ⟨h1, h2⟩
        exact ⟨by omega, q, by simpa [w] using h2⟩
      · rintro ⟨h1, _, h2⟩
        exact ⟨by omega, by simpa [w] using h2⟩
theorem St.after (h : St v S (o :: f)) (hn : n ∈ optI S o) : St v (aftI S o n) f := by
  obtain ⟨rn, hn⟩ := (mem_opt h).mp hn
  have ho := h.rng o (by simp)
  have cc : ∀ i : Int, ((o :: f).count i : Int) = f.count i + (if o = i then 1 else 0) := fun i => by
    rw [List.count_cons]
    by_cases q : o = i <;> simp [q]
  have rf : ∀ n ∈ f, 0 ≤ n ∧ n < v := fun n hn => h.rng n (by simp [hn])
  unfold aftI
  by_cases w : n = o
  · rw [if_pos w] at hn ⊢
    refine ⟨by rw [dec_len]; exact h.cl, h.ll, h.el, fun i hi => ?_, fun i hi => ?_, h.es, h.sum, rf⟩
    · have := h.cs i hi
      rw [dec_get h.cl ho hi, this, cc]; omega
    · have c0 := h.cs o ho
      have c1 := h.ls i hi
      have c2 := cc i
      by_cases q : o = i
      · subst q
        rw [if_pos rfl] at c2
        show 0 ≤ gI S.l o ∧ gI S.l o ≤ _
        omega
      · rw [if_neg q] at c2
        show 0 ≤ gI S.l i ∧ gI S.l i ≤ _
        omega
  · rw [if_neg w] at hn ⊢
    refine ⟨by rw [dec_len]; exact h.cl, by rw [dec_len]; exact h.ll, by rw [dec_len]; exact h.el, fun i hi => ?_, fun i hi => ?_, fun i hi => ?_, ?_, rf⟩
    · have := h.cs i hi
      show gI (lssI o S.c) i = _
      rw [dec_get h.cl ho hi, this, cc]; omega
    · show 0 ≤ gI (lssI o S.l) i ∧ gI (lssI o S.l) i ≤ _
      rw [dec_get h.ll ho hi]
      have c1 := h.ls i hi
      have c2 := cc i
      by_cases q : o = i
      · subst q; rw [if_pos rfl] at c2 ⊢; omega
      · rw [if_neg q] at c2 ⊢; omega
    · show 0 ≤ gI (lssI n S.e) i ∧ (gI (lssI o S.l) i = 0 ∨ gI (lssI n S.e) i = 0)
      rw [dec_get h.ll ho hi, dec_get h.el rn hi]
      have c1 := h.es i hi
      have c2 := h.es n rn
      have c3 := h.ls i hi
      have c4 := h.es o ho
      by_cases q : n = i
      · subst q
        rw [if_pos rfl, if_neg (fun z => w z.symm)]
        omega
      · rw [if_neg q]
        by_cases q2 : o = i
        · subst q2; rw [if_pos rfl]; omega
        · rw [if_neg q2]; omega
    · show (lssI o S.l).sum = (lssI n S.e).sum
      rw [dec_sum h.ll ho, dec_sum h.el rn, h.sum]
theorem fit_cons (h : St v S (o :: f)) : Fit v S (o :: f) (n :: g) ↔ n ∈ optI S o ∧ Fit v (aftI S o n) f g := by
  have ho := h.rng o (by simp)
  have co := h.cs o ho
  have cc : ((o :: f).count o : Int) = f.count o + 1 := by rw [List.count_cons]; simp
  have zo : ∀ i, outI i ((o :: f).zip (n :: g)) = (if o = i ∧ n ≠ i then 1 else 0) + outI i (f.zip g) := fun i => rfl
  have zi : ∀ i, innI i ((o :: f).zip (n :: g)) = (if n = i ∧ o ≠ i then 1 else 0) + innI i (f.zip g) := fun i => rfl
  rw [mem_opt h]
  constructor
  · intro k
    have rn := k.rng n (by simp)
    have ko := k.out o ho
    have kn := k.inn n rn
    rw [zo] at ko
    rw [zi] at kn
    have lo := out_le o (f := f) (g := g)
    have no := out_nn o (f.zip g)
    have nn := inn_nn n (f.zip g)
    refine ⟨⟨rn, ?_⟩, by simpa using k.len, fun m hm => k.rng m (by simp [hm]), fun i hi => ?_, fun i hi => ?_⟩
    · by_cases w : n = o
      · rw [if_pos w]
        rw [if_neg (fun z => z.2 w)] at ko
        omega
      · rw [if_neg w]
        rw [if_pos ⟨rfl, w⟩] at ko
        rw [if_pos ⟨rfl, fun z => w z.symm⟩] at kn
        exact ⟨by omega, by omega⟩
    · have ki := k.out i hi
      rw [zo] at ki
      unfold aftI
      by_cases w : n = o
      · rw [if_pos w]
        rw [if_neg (fun z => z.2 (w.trans z.1))] at ki
        show _ = gI S.l i
        omega
      · rw [if_neg w]
        show _ = gI (lssI o S.l) i
        rw [dec_get h.ll ho hi]
        by_cases q : o = i
        · subst q; rw [if_pos ⟨rfl, w⟩] at ki; rw [if_pos rfl]; omega
        · rw [if_neg (fun z => q z.1)] at ki; rw [if_neg q]; omega
    · have ki := k.inn i hi
      rw [zi] at ki
      unfold aftI
      by_cases w : n = o
      · rw [if_pos w]
        rw [if_neg (fun z => z.2 (w.symm.trans z.1))] at ki
        show _ = gI S.e i
        omega
      · rw [if_neg w]
        show _ = gI (lssI n S.e) i
        rw [dec_get h.el rn hi]
        by_cases q : n = i
        · subst q; rw [if_pos ⟨rfl, fun z => w z.symm⟩] at ki; rw [if_pos rfl]; omega
        · rw [if_neg (fun z => q z.1)] at ki; rw [if_neg q]; omega
  · rintro ⟨⟨rn, hn⟩, k⟩
    refine ⟨by simpa using k.len, fun m hm => ?_, fun i hi => ?_, fun i hi => ?_⟩
    · rcases List.mem_cons.mp hm with q | q
      · rw [q]; exact rn
      · exact k.rng m q
    · have ki := k.out i hi
      rw [zo]
      unfold aftI at ki
      by_cases w : n = o
      · rw [if_pos w] at ki
        have ki' : outI i (f.zip g) = gI S.l i := ki
        rw [if_neg (fun z => z.2 (w.trans z.1))]
        omega
      · rw [if_neg w] at ki
        have ki' : outI i (f.zip g) = gI (lssI o S.l) i := ki
        rw [dec_get h.ll ho hi] at ki'
        by_cases q : o = i
        · subst q; rw [if_pos ⟨rfl, w⟩]; rw [if_pos rfl] at ki'; omega
        · rw [if_neg (fun z => q z.1)]; rw [if_neg q] at ki'; omega
    · have ki := k.inn i hi
      rw [zi]
      unfold aftI at ki
      by_cases w : n = o
      · rw [if_pos w] at ki
        have ki' : innI i (f.zip g) = gI S.e i := ki
        rw [if_neg (fun z => z.2 (w.symm.trans z.1))]
        omega
      · rw [if_neg w] at ki
        have ki' : innI i (f.zip g) = gI (lssI n S.e) i := ki
        rw [dec_get h.el rn hi] at ki'
        by_cases q : n = i
        · subst q; rw [if_pos ⟨rfl, fun z => w z.symm⟩]; rw [if_pos rfl] at ki'; omega
        · rw [if_neg (fun z => q z.1)]; rw [if_neg q] at ki'; omega
theorem pos_of_sum : ∀ {l : List Int}, 0 < l.sum → ∃ k, k < l.length ∧ 0 < l.getD k 0
  | [], h => by simp at h
  | a :: l, h => by
    by_cases q : 0 < a
    · exact ⟨0, by simp, q⟩
    · rw [List.sum_cons] at h
      obtain ⟨k, hk, e⟩ := pos_of_sum (l := l) (by omega)
      exact ⟨k + 1, by simpa using hk, e⟩
theorem getD_le_sum : ∀ {l : List Int} {k : Nat}, (∀ n ∈ l, 0 ≤ n) → l.getD k 0 ≤ l.sum
  | [], _, _ => by simp
  | a :: l, 0, h => by
    have := sum_nn (ns := l) fun n hn => h n (by simp [hn])
    show a ≤ (a :: l).sum
    rw [List.sum_cons]; omega
  | a :: l, k + 1, h => by
    have := getD_le_sum (l := l) (k := k) fun n hn => h n (by simp [hn])
    have := h a (by simp)
    show l.getD k 0 ≤ (a :: l).sum
    rw [List.sum_cons]; omega
theorem St.lnn (h : St v S f) : ∀ n ∈ S.l, 0 ≤ n := fun n hn => by
  obtain ⟨k, hk, rfl⟩ := List.getElem_of_mem hn
  have := (h.ls (k : Int) (by have := h.ll; omega)).1
  unfold gI at this
  rw [Int.toNat_natCast, gd_lt hk] at this
  exact this
theorem St.enn (h : St v S f) : ∀ n ∈ S.e, 0 ≤ n := fun n hn => by
  obtain ⟨k, hk, rfl⟩ := List.getElem_of_mem hn
  have := (h.es (k : Int) (by have := h.el; omega)).1
  unfold gI at this
  rw [Int.toNat_natCast, gd_lt hk] at this
  exact this
theorem opt_ne (h : St v S (o :: f)) : optI S o ≠ [] := by
  have ho := h.rng o (by simp)
  have co := h.cs o ho
  have lo := h.ls o ho
  have cp : 0 < (o :: f).count o := by simp
  intro e
  by_cases q : gI S.l o < gI S.c o
  · have : o ∈ optI S o := (mem_opt h).mpr ⟨ho, by rw [if_pos rfl]; exact q⟩
    rw [e] at this
    cases this
  · have p : 0 < S.l.sum := by
      have := getD_le_sum (l := S.l) (k := o.toNat) h.lnn
      unfold gI at q lo co
      omega
    rw [h.sum] at p
    obtain ⟨k, hk, ek⟩ := pos_of_sum p
    have el := h.el
    have lo0 : gI S.l o ≠ 0 := by omega
    have eo := (h.es o ho).2
    have gk : 0 < gI S.e (k : Int) := by unfold gI; rw [Int.toNat_natCast]; exact ek
    have hk' : (k : Int) ≠ o := fun z => by rw [z] at gk; omega
    have : (k : Int) ∈ optI S o := (mem_opt h).mpr ⟨by omega, by rw [if_neg hk']; exact ⟨lo0, gk⟩⟩
    rw [e] at this
    cases this
theorem fit_nil (h : St v S []) : Fit v S [] [] := by
  have z : ∀ i, 0 ≤ i ∧ i < v → gI S.l i = 0 := fun i hi => by have := h.ls i hi; rw [List.count_nil] at this; omega
  have s0 : S.e.sum = 0 := by
    rw [← h.sum]
    refine Decidable.byContradiction fun hne => ?_
    have := sum_nn h.lnn
    obtain ⟨k, hk, ek⟩ := pos_of_sum (l := S.l) (by omega)
    have := z (k : Int) (by have := h.ll; omega)
    unfold gI at this
    rw [Int.toNat_natCast] at this
    omega
  refine ⟨rfl, fun _ q => (nomatch q), fun i hi => (z i hi).symm, fun i hi => ?_⟩
  have := getD_le_sum (l := S.e) (k := i.toNat) h.enn
  have := (h.es i hi).1
  show 0 = S.e.getD i.toNat 0
  unfold gI at *
  omega
/-- the first way -/
def firstI : S3 → List Int → List Int
  | _, [] => []
  | S, o :: f => (optI S o).headD 0 :: firstI (aftI S o ((optI S o).headD 0)) f
theorem head_mem (h : St v S (o :: f)) : (optI S o).headD 0 ∈ optI S o := by
  have := opt_ne h
  cases q : optI S o with
  | nil => exact absurd q this
  | cons a l => simp
theorem first_fit : ∀ {f : List Int} {S : S3}, St v S f → Fit v S f (firstI S f)
  | [], _, h => fit_nil h
  | o :: f, S, h => (fit_cons h).mpr ⟨head_mem h, first_fit (h.after (head_mem h))⟩
/-- a list comes before another, or is it -/
def lexLe : List Int → List Int → Prop
  | [], _ => True
  | _ :: _, [] => False
  | a :: as, b :: bs => a < b ∨ (a = b ∧ lexLe as bs)
/-! the state at the start -/
variable {as : List Int}
end Lm


/-! the choices of a bucket; the order of all assignments -/
namespace Lm
open PySem PySem.Spec PyProof.Rows L2
variable {v o n : Int} {S : S3} {f g f1 f2 g1 g2 as : List Int}
theorem St.front (h : St v S (f1 ++ o :: f2)) : St v S (o :: (f1 ++ f2)) := by
  have e : ∀ i : Int, (o :: (f1 ++ f2)).count i = (f1 ++ o :: f2).count i := fun i => by
    rw [List.count_cons, List.count_append, List.count_append, List.count_cons]; omega
  refine ⟨h.cl, h.ll, h.el, fun i hi => by rw [e]; exact h.cs i hi, fun i hi => by rw [e]; exact h.ls i hi, h.es, h.sum, fun n hn => h.rng n ?_⟩
  simp only [List.mem_cons, List.mem_append] at hn ⊢
  rcases hn with a | a | a
  · exact .inr (.inl a)
  · exact .inl a
  · exact .inr (.inr a)
theorem split_b {l : List Int} {b : Nat} (hb : b < l.length) : l = l.take b ++ l.getD b 0 :: l.drop (b + 1) := by
  have e : l.drop b = l.getD b 0 :: l.drop (b + 1) := by rw [List.drop_eq_getElem_cons hb, gd_lt hb]
  rw [← e, List.take_append_drop]
/-! the order of all assignments -/
def lexLt : List Int → List Int → Prop
  | a :: as, b :: bs => a < b ∨ (a = b ∧ lexLt as bs)
  | _, _ => False
theorem lexLt.le : ∀ {as bs : List Int}, lexLt as bs → lexLe as bs
  | [], _, _ => trivial
  | _ :: _, [], h => h.elim
  | a :: as, b :: bs, h => by
    unfold lexLt at h
    unfold lexLe
    rcases h with h | ⟨e, h⟩
    · exact .inl h
    · exact .inr ⟨e, h.le⟩
end Lm


/-! lists put together; promises about states, choices, and the least changes gone through -/
namespace Lm
open PySem PySem.Spec PyProof.Rows L2
section
variable {c : Ct} {H H' H0 H1 H2 H3 : Hp} {O : List Addr} {Γ Γ' Γ1 : List (Option Rs)}
variable {te ta tb tx : TE} {k ka kb : Kd} {d x y z : PyData} {i j : Int} {ds es : List PyData}
end
theorem i_rows {c : Ct} {Γ : List (Option Rs)} {tl : TE} {k : Kd} {l : List (List Int)} (h : Ev c tl Γ k (.list (l.map tupD))) (hk : k ≠ .b) : EvI c (iSeq c.K tl) Γ true (l.map tupI) := by
  have := i_seqL h hk
  rwa [List.map_map] at this
variable {v o n : Int} {S : S3} {f g as : List Int}
theorem St.at (h : St v S f) {b : Nat} (hb : b < f.length) : St v S (f.getD b 0 :: (f.take b ++ f.drop (b + 1))) := by
  have h' : St v S (f.take b ++ f.getD b 0 :: f.drop (b + 1)) := split_b hb ▸ h
  exact h'.front
def sp_check_bucket (K : PySem.W.Frag) : Sp := spD K fun ds k d => ∃ b n : Int, ds = [.int b, .int n] ∧ 0 ≤ b ∧ b < n ∧ k = .v ∧ d = .none
end Lm


/-! list.index, list.count, in: over data; the first change and its promises -/
namespace L2
open PySem PySem.Spec PyProof.Rows
section
variable {X : Cx}
end
end L2
namespace Lm
open PySem PySem.Spec PyProof.Rows L2
section
variable {X : Cx} {K : PySem.W.Frag} (hK : X.K = K)
include hK
end
theorem rUnits5 {k : Nat} {A : Around} (hr : Room k A) : A.units + 65 < cLine := by have := hr.un; omega
section
variable {c : Ct} {H H' H0 H1 H2 H3 : Hp} {O : List Addr} {Γ Γ' Γ1 : List (Option Rs)}
variable {te ta tb tx : TE} {tr : TA} {k ka kb : Kd} {d x y z : PyData} {i j : Int} {ds es : List PyData}
end
/-! promises -/
variable {v o n : Int} {S : S3} {f g as : List Int}
end Lm
namespace Lm
open PySem PySem.Spec PyProof.Rows L2
end Lm
namespace Lm
open PySem PySem.Spec PyProof.Rows L2
variable {c : Ct} {Γ : List (Option Rs)} {ta tb : TE} {ka kb : Kd}
end Lm


/-! all ways on: by number, their numbers, the next one -/
namespace Lm
open PySem PySem.Spec PyProof.Rows L2
variable {v o n : Int} {S : S3} {f g : List Int}
/-! by number -/
/-! the number -/
/-! the next one -/
theorem sum_le_pt : ∀ {as bs : List Int}, as.length = bs.length → (∀ j, j < as.length → as.getD j 0 ≤ bs.getD j 0) → as.sum ≤ bs.sum
  | [], [], _, _ => Int.le_refl _
  | a :: as, b :: bs, hl, h => by
    have h0 := h 0 (by simp)
    have := sum_le_pt (as := as) (bs := bs) (by simpa using hl) fun j hj => h (j + 1) (by simpa using hj)
    rw [List.sum_cons, List.sum_cons]
    have h0' : a ≤ b := h0
    omega
  | [], _ :: _, h, _ => by simp at h
  | _ :: _, [], h, _ => by simp at h
theorem St.ok (h : St v S f) (h20 : f.length ≤ 20) (h5 : v ≤ 5) : StOk S.c S.l S.e := by
  have cl := h.cl
  have ll := h.ll
  have el := h.el
  have cg : ∀ j, j < S.c.length → S.c.getD j 0 = f.count (j : Int) := fun j hj => by
    have := h.cs (j : Int) (by omega)
    unfold gI at this
    rwa [Int.toNat_natCast] at this
  have cs : S.c.sum = f.length := by
    have e : S.c = (upI 0 v.toNat).map fun i => (f.count i : Int) := by
      apply List.ext_getElem
      · simp [upI]; omega
      · intro i h1 h2
        have := cg i h1
        rw [gd_lt h1] at this
        rw [this]
        simp [upI]
    rw [e]
    exact count_sum v.toNat f fun n hn => by have := h.rng n hn; omega
  refine ⟨by omega, by omega, by omega, fun p hp => ?_, h.enn, ?_⟩
  · obtain ⟨i, hi, rfl⟩ := List.getElem_of_mem hp
    have i1 : i < S.c.length := by simp at hi; omega
    have i2 : i < S.l.length := by omega
    rw [List.getElem_zip]
    have a1 := cg i i1
    have a2 := h.ls (i : Int) (by omega)
    unfold gI at a2
    rw [Int.toNat_natCast, gd_lt i2] at a2
    rw [gd_lt i1] at a1
    have a3 : f.count (i : Int) ≤ f.length := List.count_le_length
    show 0 ≤ S.l[i] ∧ S.l[i] ≤ S.c[i] ∧ S.c[i] ≤ 20
    omega
  · rw [← h.sum]
    have := sum_le_pt (as := S.l) (bs := S.c) (by omega) fun j hj => by
      have a2 := h.ls (j : Int) (by omega)
      unfold gI at a2
      rw [Int.toNat_natCast] at a2
      have := cg j (by omega)
      omega
    omega
end Lm


/-! list(zip(a, b)), a and b tuples -/
namespace PySem.F
end PySem.F
namespace Lm
open PySem PySem.Spec PyProof.Rows L2
section
variable {prog : Program} {w : World} {A : Around} {E : Value → Shared → Prop} {s : Shared}
theorem pyNext_zip_end {z TI TO i1 i2 : Addr} {x : Value} {b : Bool} {fp1 fp2 : List Addr} {n1 : Nat} {P1 : Nat → Value → Prop} {St1 : Nat → Heap → Prop} {Q : Option Value → Shared → Prop}
    (S : ZipSep2 z TI TO i1 i2 fp1 fp2) (D1 : ∀ A' : Around, A'.handled = none → Draws prog w A' i1 fp1 n1 P1 St1) (hh : A.handled = none) (hz : IsZipX s.heap z TI TO x b) (hx : x = .none ∨ ∃ T : Addr, x = rawInt T) (hTI : IsTupOf2 s.heap TI (.ref i1) (.ref i2)) (st1 : St1 n1 s.heap)
    (hQ : ∀ h', (∀ c o, c ≠ z → c ≠ i1 → s.heap.get? c = some o → h'.get? c = some o) → Q none { s with heap := h' }) : wpAny (model prog w) A (pyNext (.ref z)) Q E s := by
  have hT : s.TypeIs (.ref z) "zip" := ⟨_, hz, rfl⟩
  unfold pyNext
  refine wpAny_bind (wpAny_attempt (wpAny_callSpecial?_slot (name := Str.ofString "__next__") hT F.slot_zip_next
    (wpAny_call_entry F.slot_zip_next hT F.entry_zip_next ?_ (F.args_zip_next_1 _))))
  refine zipX_end S (D1 _ hh) hz hx hTI st1 fun h' x' he' hx' => ?_
  obtain ⟨o, ho, hc⟩ := hx'
  refine wpAny_bind (wpAny_isInstance (T := "StopIteration") (b := true) ⟨o, ho, hc⟩ isSubtype_stop ?_)
  exact wpAny_pure (hQ _ he')
end
/-- a zip at its i-th turn -/
def ZAt (St1 St2 : Nat → Heap → Prop) (h : Heap) (z TI TO i1 i2 : Addr) (i : Nat) : Prop :=
  (∃ x bb, IsZipX h z TI TO x bb ∧ (x = .none ∨ ∃ T : Addr, x = rawInt T)) ∧ IsTupOf2 h TI (.ref i1) (.ref i2) ∧ (∃ a1 a2, IsTupOf2 h TO a1 a2) ∧ St1 i h ∧ St2 i h
theorem ZAt.at {St1 St2 : Nat → Heap → Prop} {h h' : Heap} {z TI TO i1 i2 a b : Addr} {i : Nat} (x : ZAt St1 St2 h z TI TO i1 i2 i) (f1 : (∀ c ∈ [i1, a], ∀ o, h.get? c = some o → h'.get? c = some o) → St1 i h → St1 i h') (f2 : (∀ c ∈ [i2, b], ∀ o, h.get? c = some o → h'.get? c = some o) → St2 i h → St2 i h') (k : ∀ c ∈ [z, TI, TO, i1, i2, a, b], ∀ o, h.get? c = some o → h'.get? c = some o) : ZAt St1 St2 h' z TI TO i1 i2 i := by
  obtain ⟨⟨x, bb, hz, hx⟩, hTI, ⟨a1, a2, hTO⟩, h1, h2⟩ := x
  exact ⟨⟨x, bb, k z (by simp) _ hz, hx⟩, k TI (by simp) _ hTI, ⟨a1, a2, k TO (by simp) _ hTO⟩, f1 (fun c hc => k c (by simp at hc ⊢; rcases hc with q | q <;> simp [q])) h1, f2 (fun c hc => k c (by simp at hc ⊢; rcases hc with q | q <;> simp [q])) h2⟩
section
variable {prog : Program} {w : World} {A : Around} {R : Result → Shared → Prop}
end
section
variable {prog : Program} {w : World} {A : Around} {E : Value → Shared → Prop} {s : Shared}
end
end Lm
namespace Lm
open PySem PySem.Spec PyProof.Rows L2
section
variable {X : Cx} {K : PySem.W.Frag} (hK : X.K = K)
include hK
end
section
variable {c : Ct} {H H' : Hp} {Γ : List (Option Rs)} {tr : TA} {ds es : List PyData} {kv : Bool}
end
end Lm


/-! slices of tuples or lists, a range kept in a name, enumerate of a new list -/
namespace Lm
open PySem PySem.Spec PyProof.Rows L2
/-- a new range object -/
def rRng1 : List V → Hp → VK → Prop := fun vs H Q => ∃ j : Int, vs = [V.int j] ∧ ∀ p, H p = none → Q (.ref p) (upd H p (.rng 0 j))
section
variable {X : Cx} {tg : Expr}
theorem cr_rng1 : CallR X (.type "range") rRng1 := by
  intro pins s σ H vs us Q I r h
  obtain ⟨j, rfl, q⟩ := h
  cases r with
  | cons ra rb =>
    cases rb
    obtain ⟨t, rfl⟩ := ra
    refine call_range_1 ⟨.ref s.heap.objs.size, upd H s.heap.objs.size (.rng 0 j), I.laid (t' := s.toks + 1 + 1) (fun b o e => Heap.get?_push_of_some _ e) (Nat.le_refl _) ?_, rfl, q _ (I.hok.fresh (Nat.le_refl _))⟩
    exact ⟨s.toks, t, s.toks + 1, Heap.get?_push_size _ rfl⟩
end
section
variable {X : Cx} {K : PySem.W.Frag} (hK : X.K = K)
include hK
end
section
variable {c : Ct} {H H' H0 H1 H2 H3 : Hp} {O : List Addr} {Γ Γ' Γ1 : List (Option Rs)}
variable {te ta tb tx : TE} {tl th : TO} {k ka kb : Kd} {d x y z : PyData} {i j : Int} {a b : Bool} {ds es : List PyData} {u : TS} {P : Out → Prop} {n : Nat} {kv : Bool} {tr : TA}
theorem i_enumLO (h : Ev c te Γ k (.list ds)) (hk : k ≠ .b) : EvI c (iEnumA c.K (tCons te tNil)) Γ true (enumI ds) := fun H0 O H σ e R q =>
  h H0 O H σ e _ fun v H1 r s => by
    obtain ⟨p, xs, rfl, kp, sl, al⟩ := (Res.frozen e r s hk).lst'
    exact ⟨p, xs, rfl, .inl ⟨mns_same.seq sl, q _ H1 r (enum_core (e.on r).j (walk_enum.mono (fun H h => h.lst kp sl) fun _ _ _ _ _ _ y => y) al (.inl rfl))⟩⟩
end
end Lm


/-! series of allocations: their steps, losses, turns -/
namespace Lm
open PySem PySem.Spec PyProof.Rows L2
structure Ser (A : List (List Int)) (v b : Int) : Prop where
  l1 : 1 ≤ A.length
  l2 : A.length ≤ 10
  alc : ∀ a ∈ A, Alc a v b
  v1 : 1 ≤ v
  v5 : v ≤ 5
  b20 : b ≤ 20
variable {A : List (List Int)} {v b : Int}
theorem Ser.len (h : Ser A v b) : ∀ a ∈ A, a.length = v.toNat := fun a ha => by have := (h.alc a ha).len; omega
theorem Ser.at (h : Ser A v b) {i : Nat} (hi : i < A.length) : Alc (A.getD i []) v b := by
  have : A.getD i [] = A[i] := by simp [List.getD_eq_getElem?_getD, hi]
  rw [this]
  exact h.alc _ (List.getElem_mem hi)
end Lm


/-! series: the promises -/
namespace Lm
open PySem PySem.Spec PyProof.Rows L2
section
variable {c : Ct} {H H' H0 H1 H2 H3 : Hp} {O : List Addr} {Γ Γ' Γ1 : List (Option Rs)}
variable {te ta tb tx : TE} {k ka kb : Kd} {d x y z : PyData} {ds es : List PyData} {u : TS} {P : Out → Prop} {n : Nat}
end
theorem fl_rows (A : List (List Int)) : flatAll (A.map tupD) = true := flatAll_mem fun d hd => by
  obtain ⟨r, _, rfl⟩ := List.mem_map.mp hd
  exact flatT r
theorem at_tup {A : List (List Int)} {j : Nat} (h : j < A.length) : atI (A.map tupD) (j : Int) = some (tupD (A.getD j [])) := atI_nat (by simp [h])
end Lm
namespace Lm
open PySem PySem.Spec PyProof.Rows L2
theorem i_seqL' {c : Ct} {Γ : List (Option Rs)} {tl : TE} {k : Kd} {ds : List PyData} {items : List Im} (h : Ev c tl Γ k (.list ds)) (hk : k ≠ .b) (e : ds.map Im.d = items) : EvI c (iSeq c.K tl) Γ true items := e ▸ i_seqL h hk
end Lm
namespace Lm
open PySem PySem.Spec PyProof.Rows L2
end Lm
namespace Lm
open PySem PySem.Spec PyProof.Rows L2
theorem i_rowsT {c : Ct} {Γ : List (Option Rs)} {tl : TE} {k : Kd} {l : List (List Int)} (h : Ev c tl Γ k (.tuple (l.map tupD))) (hk : k ≠ .b) : EvI c (iSeq c.K tl) Γ true (l.map tupI) := by
  have := i_seqT h hk
  rw [List.map_map] at this
  exact this
end Lm
namespace Lm
open PySem PySem.Spec PyProof.Rows L2
end Lm


/-! lists that hold lists of one's own; any item of a list handed back; forms of any data -/
namespace Lm
open PySem PySem.Spec PyProof.Rows L2
section
variable {c : Ct} {H H' H0 H1 H2 H3 : Hp} {O : List Addr} {Γ Γ' Γ1 : List (Option Rs)}
variable {te ta tb tx : TE} {k ka kb kx : Kd} {d x y z : PyData} {ds es : List PyData} {u : TS} {P : Out → Prop} {n : Nat} {tr : TA} {i : Int}
end
/-- each value once -/
def dd : List Int → List Int
  | [] => []
  | n :: l => if n ∈ l then dd l else n :: dd l
theorem mem_dd {m : Int} : ∀ {l : List Int}, m ∈ dd l ↔ m ∈ l
  | [] => by simp [dd]
  | n :: l => by
    unfold dd
    split
    · rename_i h
      rw [mem_dd, List.mem_cons]
      exact ⟨.inr, fun w => w.elim (fun z => z ▸ h) id⟩
    · rw [List.mem_cons, List.mem_cons, mem_dd]
theorem nd_dd : ∀ {l : List Int}, (dd l).Nodup
  | [] => List.nodup_nil
  | n :: l => by
    unfold dd
    split
    · exact nd_dd
    · rename_i h
      exact List.nodup_cons.mpr ⟨fun w => h (mem_dd.mp w), nd_dd⟩
end Lm
namespace Lm
open PySem PySem.Spec PyProof.Rows L2
section
variable {c : Ct} {Γ : List (Option Rs)} {t u w : TS} {P : Out → Prop}
end
end Lm
namespace Lm
open PySem PySem.Spec PyProof.Rows L2
theorem s_seqE {c : Ct} {Γ : List (Option Rs)} {t u : TS} {P : Out → Prop} (I : List (Option Rs) → Prop) (h : Sd c t Γ (fun o => ∃ Γ3, o = .nx Γ3 ∧ I Γ3)) (hd : ∀ Γ3, I Γ3 → Sd c u Γ3 P) : Sd c (tSeq t u) Γ P :=
  s_seq h (fun _ e => by obtain ⟨Γ3, e, i⟩ := e; cases e; exact hd _ i) (fun _ _ e => by obtain ⟨_, e, _⟩ := e; cases e) (fun _ e => by obtain ⟨_, e, _⟩ := e; cases e) (fun _ e => by obtain ⟨_, e, _⟩ := e; cases e)
end Lm


/-! defs that raise: promises with a second half -/
namespace Lm
open PySem PySem.Spec PyProof.Rows L2
section
variable {P : Program} {w : World} {K : PySem.W.Frag} {mg : Str → Option Value} {base : Heap} {k : Nat} {f : Addr} {fd : FuncData} {ps : List Str} {sp : Sp} {x : Str} {CX : CXT}
/-- what never raises does so in any context -/
theorem fn_up0 (F : FnOk P w K mg base CX0 k f fd ps sp) : FnOk P w K mg base CX k f fd ps sp :=
  ⟨F.len, fun A outer s H args us vs Q E hr he hb hv hs => codeAny_mono (F.run A outer s H args us vs Q E hr he hb hv hs) fun r s' h => by
    cases r with
    | ok fl => cases fl <;> exact h
    | error e => exact False.elim h⟩
theorem cal_up0 (F : Cal P w K mg base CX0 k x ps sp) : Cal P w K mg base CX k x ps sp := by
  obtain ⟨f, fd, F1, F2⟩ := F.ok
  exact ⟨f, fd, fn_up0 F1, F2⟩
end
/-- __init__ of an exception that keeps a text at x -/
def spIni (C : Addr) (x : Str) : Sp := fun vs H Q _ => ∃ (a : Addr) (nm : Str), vs = [.ref a, .str nm] ∧ nm.length ≤ 1000 ∧ H a = some (exo a C none) ∧ ∀ dx, H dx = none → dx ≠ a → Q .non (upd (upd H dx (exd dx [(x, .str nm)])) a (exo a C (some dx)))
/-- it holds, or the name is raised -/
def spReq (C : Addr) : Sp := fun vs H Q E => ∃ (b : Bool) (nm : Str), vs = [.bl b, .str nm] ∧ nm.length ≤ 1000 ∧ (b = true → Q .non H) ∧ (b = false → ∀ dx, H dx = none → E (.ref C) (some dx) (upd H dx (.xd [("name", .str nm)])))
theorem upd_end {H : Hp} {a dx : Addr} {o o2 o3 : HO} {u : HO} (ha : H a = none) (hd : dx ≠ a) : upd (del (upd (upd (upd H a o) dx o2) a o3) a) dx u = upd H dx u := by
  funext b
  by_cases h1 : b = dx
  · subst h1; rw [upd_same, upd_same]
  · rw [upd_ne h1, upd_ne h1]
    by_cases h2 : b = a
    · subst h2; rw [del_same, ha]
    · rw [del_ne h2, upd_ne h2, upd_ne h1, upd_ne h2]
/-- raise C(e) where e is a text -/
theorem mkO_req {C : Addr} {ta : TE} {σ : L2.St} {H : Hp} {Q : XK} {nm : Str} (hz : nm.length ≤ 1000) (h : ∀ Q' : VK, Q' (.str nm) H → ta σ H Q') (q : ∀ dx, H dx = none → Q (.ref C) (some dx) (upd H dx (.xd [("name", .str nm)]))) :
    tMkO C (spIni C "name") [] (tCons ta tNil) σ H Q := by
  refine h _ ⟨by simp, fun a ha => ⟨a, nm, rfl, hz, upd_same, fun dx hdx hne => ⟨rfl, dx, [("name", .str nm)], upd_same, ?_, ?_, ?_⟩⟩⟩
  · rw [upd_ne hne, upd_same]
  · rw [upd_ne hne] at hdx; exact hdx
  · rw [upd_ne hne] at hdx
    rw [upd_end ha hne]
    exact q dx hdx
end Lm
namespace Lm
open PySem PySem.Spec PyProof.Rows L2
section
variable {P : Program} {w : World} {K : PySem.W.Frag} {mg : Str → Option Value} {base : Heap} {k : Nat} {f : Addr} {fd : FuncData} {ps : List Str} {sp : Sp}
/-- nothing gets out of it -/
theorem fn_down0 (h : ∀ vs H Q E, sp vs H Q E → sp vs H Q E0) (F : FnOk P w K mg base (L2.CX P w) k f fd ps sp) : FnOk P w K mg base CX0 k f fd ps sp :=
  ⟨F.len, fun A outer s H args us vs Q E hr he hb hv hs => codeAny_mono (F.run A outer s H args us vs Q E0 hr he hb hv (h _ _ _ _ hs)) fun r s' h => by
    cases r with
    | ok fl => cases fl <;> exact h
    | error e =>
      obtain ⟨_, _, _, _, _, _, _, _, _, _, _, _, z⟩ := h
      exact z.elim⟩
end
end Lm
namespace Lm
open PySem PySem.Spec PyProof.Rows L2
section
variable {c : Ct} {H0 : Hp} {Γ : List (Option Rs)} {te : TE} {u : TS} {k : Kd} {d : PyData} {n : Nat}
/-- a body that ends in a raise: whatever stands behind -/
def SdX (c : Ct) (H0 : Hp) (t : TS) (Γ : List (Option Rs)) : Prop := ∀ O H σ D, Env c H0 O H σ Γ → t D σ H
theorem x_drop (h : Ev c te Γ k d) (p : SdX c H0 u Γ) : SdX c H0 (tSeq (tDrop te) u) Γ := fun O H σ D e => h H0 O H σ e _ fun v H2 r q => p O H2 σ D (e.on r)
end
end Lm


/-! __init__ of an exception class two below ValueError: super().__init__(..) and what stands behind it -/
namespace PySem.W
open PySem PySem.Calls PyProof.Rows PyProof.V PySem.Spec
theorem call_mwr {prog : Program} {w : World} {A : Around} {E : Value → Shared → Prop} {h : Heap} {g : Array GenState} {d : Drawn} {t : Nat} {os : OsState} {nm q : Str} {C N u e t0 : Addr} {bs bm bmB : List Value} {hdct : Bool} {sn : List Str} {sub : List Value} {ab : Bool} {col : Option Bool} {dd dv : Option Addr}
    {k0 k1 k2 k3 k5 : Option Value} {c2 : Value} {B newId i : String} {rest : List Value} {Q : Value → Shared → Prop} (FB : ExcBaseFacts B newId i bmB) (hC : h.get? C = some (excClassObj nm q C N bs bm hdct sn sub ab col dd k0 k1 k2 k3 k5 newId))
    (he : h.get? e = some (excObj C t0 dv c2)) (hu : h.get? u = some (kxs_mw i e)) (hz : rest.length ≤ sizeLine)
    (fin : ∀ h', (∀ b o, b ≠ e → h.get? b = some o → h'.get? b = some o) → h'.get? e = some (excObj C h.objs.size dv c2) → Q .none ⟨h', g, d, t, os⟩) : wpAny (model prog w) A (call (.ref u) rest) Q E ⟨h, g, d, t, os⟩ := by
  refine wpAny_call (codeAny_of_tree ?_)
  show wpAny _ A.in1 (callAny (.ref u) ⟨rest, []⟩) _ _ _
  simp only [callAny]
  refine wpAny_bind (wpAny_load hu ?_)
  simp only [kxs_mw, show (Value.type "method-wrapper" == Value.type "method" || Value.type "method-wrapper" == Value.type "builtin_function_or_method" || Value.type "method-wrapper" == Value.type "method-wrapper") = true by decide, if_true]
  refine KFB.if_so (by decide) ?_
  refine wpAny_bind (check_bound_init FB.toExcCallFacts hC he rfl ?_)
  refine wpAny_bind (wpAny_pure (wpAny_pure ?_))
  refine ⟨plainId_quiet FB.init.plain _, codeAny_builtin FB.initEntry ?_⟩
  exact exc_init_tree (cls := .ref C) (t0 := t0) (dv := dv) (c2 := c2) (c3 := .none) (b4 := .bool false) he hz fun h' k e' _ => fin h' k e'
end PySem.W
namespace Lm
open PySem PySem.Spec PyProof.Rows L2
/-- the context of such a def's body: the class's cell is free in it -/
def cxF (CX : CXT) (P : Program) (w : World) (K : PySem.W.Frag) (mg : Str → Option Value) (base : Heap) (N : List Str) (qual : Str) (scope : Scope) (f : Addr) (cd : Value) (cc : Addr) (A : Around) (outer : List PySem.Env) (s : Shared) (H : Hp) (E : XK) : Cx where
  prog := P
  w := w
  K := K
  mg := mg
  base := base
  A := A.deeper (PySem.W.ksEnv qual scope s.heap.objs.size f cd cc)
  N := N
  s_0 := s
  H_0 := H
  env := PySem.W.ksEnv qual scope s.heap.objs.size f cd cc
  outer := outer
  stack := PySem.W.ksEnv qual scope s.heap.objs.size f cd cc :: outer
  ex := []
  calm := true
  fn := fun _ => false
  pn := []
  xe := fun e s' => wpAny (model P w) (A.deeper (PySem.W.ksEnv qual scope s.heap.objs.size f cd cc)) (leaving (PySem.W.ksEnv qual scope s.heap.objs.size f cd cc) e) (fun _ s'' => CX outer H s E e s'') (fun e' s'' => CX outer H s E e' s'') s'
/-- its scope -/
structure IniScope (N P : List Str) (sc : Scope) : Prop where
  kind : sc.kind = .function
  co : sc.isCoroutine = false
  gen : sc.isGenerator = false
  nd : N.Nodup
  pre : N.take P.length = P
  par : ∀ x ∈ P, sc.names.lookup x = some .local
  nocell : ∀ y ∈ sc.names, y.2 ≠ .cell
  free : ∀ y ∈ sc.names, y.2 = .free → y.1 = "__class__"
  sup : sc.names.lookup ("super" : Str) = some .globalImplicit
  cls : sc.names.lookup ("__class__" : Str) = some .free
theorem lookup_mem : ∀ {l : List (Str × Value)} {x : Str} {v : Value}, (l.map (·.1)).Nodup → (x, v) ∈ l → l.lookup x = some v
  | [], _, _, _, h => nomatch h
  | (y, u) :: l, x, v, nd, h => by
    have nd' := List.nodup_cons.mp nd
    by_cases e : x = y
    · subst e
      rcases List.mem_cons.mp h with z | z
      · cases z; simp [List.lookup]
      · exact absurd (List.mem_map_of_mem (f := (·.1)) z) nd'.1
    · have e' : (x == y) = false := by simpa using e
      rcases List.mem_cons.mp h with z | z
      · cases z; exact absurd rfl e
      · simp only [List.lookup, e']
        exact lookup_mem nd'.2 z
theorem cell1 {x : Str} {c cc : Addr} (h : [(("__class__" : Str), cc)].lookup x = some c) : x = "__class__" ∧ c = cc := by
  by_cases e : x = "__class__"
  · subst e
    exact ⟨rfl, (Option.some.inj (by simpa [List.lookup] using h)).symm⟩
  · have e' : (x == ("__class__" : Str)) = false := by simpa using e
    simp [List.lookup, e'] at h
theorem inv_startF {CX : CXT} {P : Program} {w : World} {K : PySem.W.Frag} {mg : Str → Option Value} {base : Heap} {N ps : List Str} {qual : Str} {scope : Scope} {f cc : Addr} {cd : Value} {A : Around} {outer : List PySem.Env} {s : Shared} {h1 : Heap} {tk : Nat} {H : Hp} {E : XK} {us : List Value} {vs : List V} {cl : Value} {cld : Option Addr} {cv : Option Value} {csl : Array (Option Value)}
    (S : IniScope N ps scope) (hcell : K.lookup cc = some ⟨cl, cld, .cell cv, csl⟩) (hd : A.handled = none) (e0 : Env0 P w K mg base A outer s H) (hl : vs.length = ps.length) (r : Vals vs us)
    (hns : h1.Ns s.heap.objs.size (fun x => (ps.zip us).reverse.lookup x)) (hk : ∀ b o, s.heap.get? b = some o → h1.get? b = some o) :
    Inv (cxF CX P w K mg base N qual scope f cd cc A outer s H E) [] (L2.start N vs) H { s with heap := h1, toks := tk } := by
  have hpl : ps.length ≤ N.length := by have := congrArg List.length S.pre; rw [List.length_take] at this; omega
  have hb : base.get? cc = some ⟨cl, cld, .cell cv, csl⟩ := e0.mod.kin _ _ hcell
  have hs := e0.bs _ _ hb
  have noA : ∀ b : Addr, b ∉ (cxF CX P w K mg base N qual scope f cd cc A outer s H E).ex := fun b z => absurd (show b ∈ ([] : List Addr) from z) (by simp)
  refine ⟨⟨e0.mod, S.kind, rfl, rfl, Nat.le_refl _, fun y z c p q => ((cell1 p).1.trans (cell1 q).1.symm), fun y hy => ?_, fun y c z _ => (nomatch z), fun _ => hd, Around.frames_deeper e0.frames, .inr ⟨rfl, rfl⟩, fun b z => absurd z (noA b), e0.bs, e0.bsz, fun b _ _ => noA b, fun b z => absurd z (noA b), e0.funs, e0.frf⟩,
    rfl, e0.bare, Un.kept hk, ⟨_, hns, fun i y v p q z => ?_⟩, fun y c z => ?_, e0.hok.fresh (Nat.le_refl _), fun y c z => ?_, fun p hp => absurd (show p ∈ ([] : List (Addr × Obj)) from hp) (by simp), e0.hok.kept hk, ?_⟩
  · have hy : scope.names.lookup y = some .cell ∨ scope.names.lookup y = some .free := hy
    rcases hy with hy | hy
    · exact absurd rfl (S.nocell _ (PySem.mem_of_lookup hy))
    · have e := S.free _ (PySem.mem_of_lookup hy) rfl
      exact ⟨cc, by
        have e' : y = "__class__" := e
        subst e'
        show [(("__class__" : Str), cc)].lookup ("__class__" : Str) = some cc
        simp [List.lookup]⟩
  · have hi : i < vs.length := by
      unfold L2.start at q
      by_cases hi : i < vs.length
      · exact hi
      · rw [List.getElem?_append_right (by simpa using hi), List.getElem?_replicate] at q
        split at q <;> cases q
    have ha : vs[i]? = some v := by
      unfold L2.start at q
      rw [List.getElem?_append_left (by simpa using hi), List.getElem?_map] at q
      cases e : vs[i]? with
      | none => rw [e] at q; cases q
      | some a => rw [e] at q; cases q; rfl
    obtain ⟨u, hu, rv⟩ := r.get ha
    have hp : ps[i]? = some y := by
      rw [← S.pre, List.getElem?_take_of_lt (by omega)]; exact p
    have ndP : ps.Nodup := by rw [← S.pre]; exact S.nd.sublist (List.take_sublist _ _)
    have ml : (y, u) ∈ ps.zip us := by
      have : (ps.zip us)[i]? = some (y, u) := by rw [List.getElem?_zip_eq_some]; exact ⟨hp, hu⟩
      exact List.mem_of_getElem? this
    have lz : us.length = ps.length := by rw [← hl, Paired.length r]
    refine ⟨u, rv, .inl ⟨S.par y (List.mem_of_getElem? hp), lookup_mem ?_ (List.mem_reverse.mpr ml)⟩⟩
    rw [List.map_reverse, List.map_fst_zip (by omega)]
    exact (List.reverse_perm ps).nodup_iff.mpr ndP
  · obtain ⟨_, rfl⟩ := cell1 z
    exact ⟨cv, _, hk _ _ hs.1, rfl⟩
  · obtain ⟨_, rfl⟩ := cell1 z
    exact hs.2
  · unfold L2.start
    show _ = N.length
    rw [List.length_append, List.length_map, List.length_replicate]
    omega

theorem super_boot : bootBuiltins "super" = some (.type "super") := by first | rfl | decide +kernel
/-- THE RULE: super().__init__(e), then the rest of the body -/
theorem fn_super {CX : CXT} {P : Program} {w : World} {K : PySem.W.Frag} {mg : Str → Option Value} {base : Heap} {k : Nat} {f C cc cda : Addr} {name qual : Str} {params : Arguments} {scope : Scope} {dV kV doc pm ct oc : Value} {an od : Option Addr} {osl : Array (Option Value)} {N ps : List Str} {sp : Sp}
    {p0 p1 p2 p3 p4 : Pos} {e : Expr} {rest : List Stmt} {ar : Arg} {vs : Array Value} {file : Str} {tf : Tok} {ccl cl : Value} {cdd cld : Option Addr} {ccs csl : Array (Option Value)}
    (lk : K.lookup f = some ⟨oc, od, .func (PySem.W.ksFn name qual params (.Expr (.Call (.Attribute (.Call (.Name "super" p0) [] [] p1) "__init__" p2) [e] [] p3) p4 :: rest) scope dV kV doc pm an (.ref cda) ct cc), osl⟩)
    (hcd : PySem.W.codeIn K (.ref cda) qual = true) (S : IniScope N ps scope) (hp : (params.posonlyargs ++ params.args).head? = some ar) (h0 : ps[0]? = some ar.arg)
    (hcode : K.lookup cda = some ⟨ccl, cdd, .fields vs, ccs⟩) (hvs : vs[2]? = some (.str file tf)) (hfile : ((P.main.file : Str) == file) = true) (hcell : K.lookup cc = some ⟨cl, cld, .cell (some (.ref C)), csl⟩)
    (T : OexC K C) (hsuper : mg "super" = none) (hsub : PySem.W.subIn K (.ref C) (.type "ValueError") = some true) (hop : PySem.W.nsIn K cStatics "thirdparty.any" = some none)
    (hm : PySem.W.ks_superIn K C C "__init__" = some (some (.builtin "ValueError.__init__"))) (htop : (P.main.scope.names.lookup ("super" : Str)).isSome = false)
    (len : ∀ vs H Q E, sp vs H Q E → vs.length = ps.length)
    (hbody : ∀ (A : Around) (outer : List PySem.Env) (s : Shared) (H : Hp) (vs : List V) (Q : VK) (E : XK), Room k (A.deeper (PySem.W.ksEnv qual scope s.heap.objs.size f (.ref cda) cc)) → sp vs H Q E →
      ∃ (a : Addr) (ws : List V) (te : TE) (t : TS), vs = .ref a :: ws ∧ H a = some (exo a C none) ∧ PE (cxF CX P w K mg base N qual scope f (.ref cda) cc A outer s H E) e te ∧ PSs (cxF CX P w K mg base N qual scope f (.ref cda) cc A outer s H E) rest t ∧
        te (L2.start N vs) H fun _ H1 => H1 a = some (exo a C none) ∧ t { nx := fun _ H' => Q .non H', rt := Q } (L2.start N vs) H1)
    {pl : PySem.Env → Sem Bool}
    (hme : ∀ env : PySem.Env, eval (.Call (.Attribute (.Call (.Name "super" p0) [] [] p1) "__init__" p2) [e] [] p3) env = (do
      let ov ← attributeBase (.Call (.Name "super" p0) [] [] p1) "__init__" env (eval (.Call (.Name "super" p0) [] [] p1) env)
      standAt p2.atName
      let (f, first) ← holding [ov] (getMethod ov "__init__" (pl env))
      callWith p3 f first (backTo p3 (starEach [e] env)) []) := by intro env; rfl)
    (he : ∀ env : PySem.Env, starEach [e] env = [(false, eval e env)] := by intro env; rfl) :
    FnOk P w K mg base CX (k + 1) f (PySem.W.ksFn name qual params (.Expr (.Call (.Attribute (.Call (.Name "super" p0) [] [] p1) "__init__" p2) [e] [] p3) p4 :: rest) scope dV kV doc pm an (.ref cda) ct cc) ps sp := by
  refine ⟨len, fun A outer s H args us vs Q E hr e0 hb r hsp => ?_⟩
  have hl := len _ _ _ _ hsp
  have KX : K.In s.heap := e0.mod.kin.keeps fun b o e => (e0.bs b o e).1
  have lim : s.heap.NoLimit := e0.mod.nolimit.keeps fun b o e => (e0.bs b o e).1
  refine ks_codeAny_call_defAt (fd := PySem.W.ksFn name qual params (.Expr (.Call (.Attribute (.Call (.Name "super" p0) [] [] p1) "__init__" p2) [e] [] p3) p4 :: rest) scope dV kV doc pm an (.ref cda) ct cc) (binds := ps.zip us) hr.depth (KX _ _ lk) rfl lim (PySem.W.codeRec_of KX hcd) rfl hb S.nocell
    (fun y hy => S.par _ (List.of_mem_zip (a := y.1) (b := y.2) hy).1) (fun h1 hns hk => ?_) S.co S.gen S.kind
  obtain ⟨a, ws, te, t, ev, ha, hpe, hps, hq⟩ := hbody A outer s H vs Q E (hr.deeper _) hsp
  have I := inv_startF (CX := CX) (w := w) (mg := mg) (qual := qual) (f := f) (cd := .ref cda) (tk := s.toks + (ps.zip us).length) (E := E) S hcell hr.hd e0 hl r hns hk
  show PySem.wpAt (model P w) (A.deeper (PySem.W.ksEnv qual scope s.heap.objs.size f (.ref cda) cc)) (.func _ (PySem.W.ksEnv qual scope s.heap.objs.size f (.ref cda) cc)) (execs _ (PySem.W.ksEnv qual scope s.heap.objs.size f (.ref cda) cc)) _ _ _
  refine ks_wpAt_execs_cons (ks_wpAt_Expr_any (ks_wpAt_MethodCall ?_ (hme _)) I.quiet (by rfl))
  obtain ⟨t1, hoe⟩ := exo_at e0.hok ha
  obtain ⟨nm, qn, Nn, bs, bm, sn, sub, ab, col, dd, k0, k1, k2, k3, k5, hC, hbm⟩ := T.cls
  have hcl : PySem.W.clsIn K C = some { name := nm, bases := bs, mro := .ref C :: bm, ns := Nn, qualname := qn, hasDict := true, slotNames := sn, subclasses := sub, abstract := ab, collection := col, hasDel := false } := by unfold PySem.W.clsIn; rw [hC] <;> rfl
  have hmro : PySem.W.mroIn K C (.ref C) = some true := by
    unfold PySem.W.mroIn
    rw [hcl, Option.bind_some, if_neg (show ¬ (List.isEmpty (Value.ref C :: bm) = true) from Bool.false_ne_true)]
    simp
  have KI := I.kIn
  have hsf : N[0]? = some ar.arg := by
    have h1 : ps.length ≠ 0 := fun z => by rw [List.length_eq_zero_iff.mp z] at h0; cases h0
    rw [← S.pre, List.getElem?_take_of_lt (by omega)] at h0
    exact h0
  have hk0 := S.par _ (List.mem_of_getElem? h0)
  refine ks_wpAt_super_base (env := PySem.W.ksEnv qual scope s.heap.objs.size f (.ref cda) cc) S.sup S.cls (by decide) rfl (KI _ _ lk) rfl hp rfl (KI _ _ hcode) rfl hvs hfile htop ?_
  obtain ⟨mb, b1, b2⟩ := I.mod.blt
  refine PySem.W.ks_loadName_global S.kind S.sup (Calls.loadGlobal_builtin (env := PySem.W.ksEnv qual scope s.heap.objs.size f (.ref cda) cc) (I.mod.glob.keeps I.bk) hsuper (b1.keeps I.bk) ((b2 _ (by decide)).trans super_boot) ⟨rfl, ?_⟩)
  refine wpAny_loadName_free S.kind S.cls rfl ⟨_, KI _ _ hcell, rfl⟩ ?_
  obtain ⟨m, hn, hlk⟩ := I.loc
  have hself : m ar.arg = some (.ref a) := by
    obtain ⟨u, ru, l⟩ := hlk 0 ar.arg (.ref a) hsf (by rw [ev]; rfl) (.inl hk0)
    obtain rfl : u = Value.ref a := ru
    rcases l with l | ⟨l, _⟩
    · exact l.2
    · have l' : scope.names.lookup ar.arg = some .cell ∨ scope.names.lookup ar.arg = some .free := l
      rw [hk0] at l'
      rcases l' with z | z <;> cases z
  refine wpAny_loadName_local S.kind hk0 hn hself ?_
  refine ks_wpAny_isType_cls (KI _ _ hC) rfl ⟨rfl, ?_⟩
  refine ks_wpAny_call_super (KI _ _ hC) rfl (hk _ _ hoe) rfl (fun c z => by cases z) (PySem.W.looks_mroIn KI hmro) (fun h2 e2 kk2 => ?_)
  have I2 := I.kept (t' := s.toks + (ps.zip us).length) kk2
  have KI2 := I2.kIn
  have hxC : a ≠ C := fun z => by
    have := (I2.bs C _ (e0.mod.kin _ _ hC)).2
    rw [← z, ha] at this
    cases this
  have hI : PySem.W.InstAt h2 a _ C none := ⟨kk2 _ _ (hk _ _ hoe), rfl, rfl, trivial⟩
  unfold PySem.W.ks_superIn at hm
  rw [hcl] at hm
  refine PySem.W.kxs_getMethod PySem.W.kxs_ValueError e2 (PySem.W.looks_opaque KI2 hop) (l₀ := .ref C :: bm) (fun A Q E s k q => wpAny_bind ((PySem.W.looks_clsIn KI2 hcl) A _ E s k (wpAny_pure q))) rfl KI2 hm (hI.type.andThen (PySem.W.looks_subIn KI2 hsub)) hxC (by decide) ?_
  have hu : (h2.push (PySem.W.kxs_mw "ValueError.__init__" a)).get? h2.objs.size = some (PySem.W.kxs_mw "ValueError.__init__" a) := Heap.get?_push_at rfl rfl
  have I3 := I2.kept (h' := h2.push (PySem.W.kxs_mw "ValueError.__init__" a)) (t' := s.toks + (ps.zip us).length + 1) (fun b o z => Heap.get?_push_of_some _ z)
  have I4 := I3.pins_of (pins' := [(h2.objs.size, PySem.W.kxs_mw "ValueError.__init__" a)]) (fun p hp => by
    have ep : p = (h2.objs.size, PySem.W.kxs_mw "ValueError.__init__" a) := by simpa using hp
    subst ep
    refine ⟨hu, I2.hok.fresh (Nat.le_refl _), fun z => ?_, I2.nofs (Nat.le_refl _), fun v z => by cases z⟩
    have y := I2.lt
    rw [← z] at y
    exact Nat.lt_irrefl _ y)
  show PySem.wpAny _ _ (callWith p3 (.ref h2.objs.size) [] (backTo p3 (starEach [e] (PySem.W.ksEnv qual scope s.heap.objs.size f (.ref cda) cc))) []) _ _ _
  rw [he]
  refine PySem.W.kxs_callWith (i := "ValueError.__init__") (x := a) rfl (Calls.evalArgs_plain ?_)
  refine Calls.spliced_cons (thn (hpe.run _ _ _ _ _ I4 hq) fun u1 s1 ⟨x, H1, I5, r1, ea, q1⟩ => Calls.spliced_nil ⟨(I5.pin (h2.objs.size, PySem.W.kxs_mw "ValueError.__init__" a) (List.mem_append_right _ (by simp))).1, ?_⟩)
  obtain ⟨hp', g, d, tk, os⟩ := s1
  obtain ⟨t2, ho⟩ := exo_at I5.hok ea
  refine PySem.W.call_mwr F.excBase_ValueError (I5.kIn _ _ hC) ho (I5.pin (h2.objs.size, PySem.W.kxs_mw "ValueError.__init__" a) (List.mem_append_right _ (by simp))).1 (by show 1 ≤ sizeLine; rw [sizeLine_eq]; omega) (fun h' k' e' => ?_)
  have J := I5.write (t' := tk) (x := a) (e := a) (o := exo a C none) (by rw [ea]; exact True.intro) (.inl rfl) k' ⟨_, e'⟩ (exo_ok e')
  have eu : upd H1 a (exo a C none) = H1 := by
    funext b
    by_cases hb : b = a
    · rw [hb, upd_same, ea]
    · rw [upd_ne hb]
  rw [eu] at J
  have J0 := J.pins_of (pins' := []) (fun p hp => by simp at hp)
  refine wpAt_of_wpAny (wpAny_mono (hps.run [] _ _ _ _ J0 q1) (fun fl s' hs => ?_) fun e s' hs => hs)
  cases fl with
  | ret u =>
    obtain ⟨v, σ', H', J, rv, q⟩ := hs
    exact ⟨v, H', J.os, J.bare, J.base, J.hok, rv, q⟩
  | next =>
    obtain ⟨σ', H', J, q⟩ := hs
    exact ⟨V.non, H', J.os, J.bare, J.base, J.hok, rfl, q⟩
  | brk =>
    obtain ⟨_, _, _, q⟩ := hs
    exact False.elim q
  | cont =>
    obtain ⟨_, _, _, q⟩ := hs
    exact False.elim q

theorem exm_self {K : PySem.W.Frag} {C : Addr} {cd : ClassData} (xb : PySem.W.subIn K (.ref C) (.type "BaseException") = some true) (hc : PySem.W.clsIn K C = some cd) (xt : PySem.W.typeIn K (.ref C) = some (.type "type")) (hs : PySem.W.subIn K (.ref C) (.ref C) = some true) :
    PySem.W.exmOne K (.ref C) (.ref C) = some true := by
  unfold PySem.W.exmOne PySem.W.kitCls
  rw [if_pos (by rw [xb]; rfl)]
  show (if ((PySem.W.clsIn K C).isSome && PySem.W.typeIn K (.ref C) == some (.type "type")) = true then PySem.W.subIn K (.ref C) (.ref C) else none) = some true
  rw [hc, xt, hs]
  rfl
/-- what is known of an exception class that keeps a text -/
structure Exc1 (P : Program) (w : World) (K : PySem.W.Frag) (mg : Str → Option Value) (base : Heap) (cls fld : Str) (C : Addr) : Prop where
  O : OexC K C
  X : XfC K C
  hC : mg cls = some (.ref C)
  no : PySem.W.findIn K (.ref C) fld = some none
  exm : PySem.W.exmOne K (.ref C) (.ref C) = some true
  ini : ∃ fI fdI, PySem.W.findIn K (.ref C) "__init__" = some (some (.ref fI)) ∧ PySem.W.typeIn K (.ref fI) = some (.type "function") ∧ FnOk P w K mg base (L2.CX P w) 1 fI fdI ["self", fld] (spIni C fld) ∧ Binds K fdI ["self", fld] []
/-- the readings of such an __init__ -/
theorem run_ini {K : PySem.W.Frag} {C a : Addr} {pre fld nm : Str} {σ : L2.St} {H : Hp} {Q : VK} {D : Ends} (hp : pre.length ≤ 1000) (hz : nm.length ≤ 1000) (O : OexC K C) (hno : PySem.W.findIn K (.ref C) fld = some none) (s0 : σ[0]? = some (some (.ref a))) (s1 : σ[1]? = some (some (.str nm)))
    (ha : H a = some (exo a C none)) (hq : ∀ dx, H dx = none → dx ≠ a → D.nx σ (upd (upd H dx (exd dx [(fld, .str nm)])) a (exo a C (some dx)))) :
    tJs [tC (.str pre), tFmt (tVar 1)] Str.empty σ H fun out H1 => H1 a = some (exo a C none) ∧ tOst K fld (tVar 0) (tVar 1) D σ H1 := by
  have e0 : Str.empty.length = 0 := by decide
  refine ⟨pre, rfl, ?_, .str nm, s1, .inl ⟨nm, rfl, ?_, nm, rfl, ?_, ha, .str nm, s1, .ref a, s0, a, C, rfl, O, hno, .inl ⟨ha, hq⟩⟩⟩
  · rw [PySem.Str.length_append, sizeLine_eq]; omega
  · rw [sizeLine_eq]; omega
  · rw [PySem.Str.length_append, PySem.Str.length_append, sizeLine_eq]; omega
end Lm


/-! tuple * int, any int from 0 on -/
namespace L2
open PySem PySem.Spec PyProof.Rows
theorem tuple_mul1 (l : Addr) (items : Array Value) (n : Nat) (dd : Option Addr) (sl : Array (Option Value)) (u : Tok) :
    Meets (Builtin.«tuple.__mul__» ⟨[.ref l, .int 1 u], []⟩) (fun _ R s => s.heap.get? l = some { cls := .type "tuple", dict := dd, data := .seq items n, slots := sl } ∧ R (.ok (.ret (Value.ref l))) s) :=
  .of_wp fun prog w A R s h => by
    obtain ⟨hp, g, d, tk, os⟩ := s
    obtain ⟨hl, h⟩ := h
    have f1 := AutoSeq1.idx_int
    have c1 : (items.isEmpty || (1 : Int) == 1) = true := by simp
    wp_walk using wpAny_loadPart' hl
    repeat (first
      | (refine wpAny_ite_true (decide_eq_true (by rw [c1])) ?_; wp_walk using wpAny_loadPart' hl)
      | (rw [if_pos c1]; wp_walk using wpAny_loadPart' hl)
      | (refine wpAny_ite_false (decide_eq_false (by decide)) ?_; wp_walk using wpAny_loadPart' hl))
    all_goals exact ⟨_, rfl, h⟩
theorem tuple_mul0 (l : Addr) (items : Array Value) (n : Nat) (dd : Option Addr) (sl : Array (Option Value)) (u : Tok) (c1 : items.isEmpty = false) :
    Meets (Builtin.«tuple.__mul__» ⟨[.ref l, .int 0 u], []⟩) (fun _ R s => s.heap.get? l = some { cls := .type "tuple", dict := dd, data := .seq items n, slots := sl } ∧
      R (.ok (.ret (Value.ref s.heap.objs.size))) { s with heap := s.heap.push { cls := Value.type "tuple", data := Data.seq #[] }, toks := s.toks }) :=
  .of_wp fun prog w A R s h => by
    obtain ⟨hp, g, d, tk, os⟩ := s
    obtain ⟨hl, h⟩ := h
    have f1 := AutoSeq1.idx_int
    have c2 : (items.isEmpty || (0 : Int) == 1) = false := by rw [c1]; rfl
    wp_walk using wpAny_loadPart' hl
    repeat (first
      | (refine wpAny_ite_false (decide_eq_false (by rw [c2]; exact Bool.false_ne_true)) ?_; wp_walk using wpAny_loadPart' hl)
      | (rw [if_neg (by rw [c2]; exact Bool.false_ne_true)]; wp_walk using wpAny_loadPart' hl))
    all_goals exact ⟨_, rfl, h⟩
end L2
namespace Lm
open PySem PySem.Spec PyProof.Rows L2
def rRepU (K : PySem.W.Frag) : R2 := fun x y H Q => ∃ l k xs, x = .ref l ∧ y = .int k ∧ SqT K H l xs ∧ xs ≠ [] ∧ 0 ≤ k ∧ k ≤ 1000 ∧ xs.length ≤ 1000 ∧ (k = 1 → Q (.ref l) H) ∧ (k ≠ 1 → NewT H (List.replicate k.toNat xs).flatten Q)
section
variable {X : Cx}
theorem op_repU : OpR X (binaryOp .Mult) (rRepU X.K) := by
  intro pins s σ H x y v u Q I rx ry ⟨l, k, xs, ex, ey, hT, hne, h1, h2, hz, q1, q⟩
  subst ex ey
  cases rx
  obtain ⟨t, rfl⟩ := ry
  obtain ⟨us, r, ⟨⟨cls, dd, data, sl⟩, ho, hc, n, hd⟩, _⟩ := I.tuple hT
  simp only at hc hd
  subst hc hd
  have hle : us.length = xs.length := Eq.symm r.length
  have hi : us.toArray.isEmpty = false := by
    cases us with
    | nil => exact (hne (List.eq_nil_of_length_eq_zero hle.symm)).elim
    | cons _ _ => rfl
  by_cases k1 : k = 1
  · subst k1
    refine wpAny_binaryOp_repeat_ref (T := "tuple") (U := "int") (by decide) ⟨_, ho, rfl⟩ (fun s2 => typeIs_int s2 1 t) noFill_tuple_mul F.fills_int_mul F.slot_int_rmul repeat_tuple F.slot_int_index.lookup (call_meets F.slot_int_rmul (typeIs_int s 1 t) F.entry_int_rmul (F.args_int_rmul_2 _ _) (int_rmul_tuple 1 t l us.toArray n dd sl)
        ⟨ho, rfl, ⟨_, ho, rfl⟩, call_meets F.slot_tuple_mul ⟨_, ho, rfl⟩ F.entry_tuple_mul (F.args_tuple_mul_2 _ _) (tuple_mul1 l us.toArray n dd sl t) ⟨ho, ?_⟩⟩)
    exact ⟨.ref l, H, I, rfl, q1 rfl⟩
  have fin := newT (us := (List.replicate k.toNat us).flatten) I (r.rep k.toNat) (by
    rw [PyProof.Rows.lm_len_rep_flat, sizeLine_eq]
    have := Nat.mul_le_mul (show k.toNat ≤ 1000 by omega) hz
    omega) (q k1)
  by_cases k0 : k = 0
  · subst k0
    exact wpAny_binaryOp_repeat_ref (T := "tuple") (U := "int") (by decide) ⟨_, ho, rfl⟩ (fun s2 => typeIs_int s2 0 t) noFill_tuple_mul F.fills_int_mul F.slot_int_rmul repeat_tuple F.slot_int_index.lookup (call_meets F.slot_int_rmul (typeIs_int s 0 t) F.entry_int_rmul (F.args_int_rmul_2 _ _) (int_rmul_tuple 0 t l us.toArray n dd sl)
        ⟨ho, rfl, ⟨_, ho, rfl⟩, call_meets F.slot_tuple_mul ⟨_, ho, rfl⟩ F.entry_tuple_mul (F.args_tuple_mul_2 _ _) (tuple_mul0 l us.toArray n dd sl t hi) ⟨ho, fin⟩⟩)
  have sz : us.toArray.size = xs.length := by simp [hle]
  have a1 : ((xs.length : Nat) : Int) * k ≤ 1000 * k := Int.mul_le_mul_of_nonneg_right (by omega) (by omega)
  have fl : (List.foldl (fun x1 x2 => x1 ++ x2) #[] (List.replicate k.toNat us.toArray)) = (List.replicate k.toNat us).flatten.toArray := size_rep us k.toNat
  refine wpAny_binaryOp_repeat_ref (T := "tuple") (U := "int") (by decide) ⟨_, ho, rfl⟩ (fun s2 => typeIs_int s2 k t) noFill_tuple_mul F.fills_int_mul F.slot_int_rmul repeat_tuple F.slot_int_index.lookup (call_meets F.slot_int_rmul (typeIs_int s k t) F.entry_int_rmul (F.args_int_rmul_2 _ _) (int_rmul_tuple k t l us.toArray n dd sl)
        ⟨ho, rfl, ⟨_, ho, rfl⟩, call_meets F.slot_tuple_mul ⟨_, ho, rfl⟩ F.entry_tuple_mul (F.args_tuple_mul_2 _ _) (tuple_mulW l us.toArray n dd sl k t ?_ ?_ ?_ ?_ ?_ ?_) ⟨ho, ?_⟩⟩)
  · rw [decide_eq_false (by omega), decide_eq_false (by omega)]; rfl
  · rw [hi, Bool.false_or]; simpa using k1
  · rw [hi, Bool.or_false]; simp; omega
  · rw [sz]; omega
  · rw [sz]; unfold Builtin.Tuple.tupleTooMany; rw [sizeLine_eq]; simp; omega
  · rw [fl, List.size_toArray, PyProof.Rows.lm_len_rep_flat, sizeLine_eq, hle]
    have := Nat.mul_le_mul (show k.toNat ≤ 1000 by omega) hz
    omega
  · rw [fl]; exact fin
end
end Lm
namespace Lm
open PySem PySem.Spec PyProof.Rows L2
section
variable {X : Cx} {K : PySem.W.Frag} (hK : X.K = K)
include hK
theorem k_repU : OpR X (binaryOp .Mult) (rRepU K) := hK ▸ op_repU
end
section
variable {c : Ct} {Γ : List (Option Rs)} {ta tb : TE} {ka kb : Kd} {ds : List PyData} {i : Int}
/-- tuple * int -/
theorem e_repT (h : Ev c ta Γ .v (.tuple ds)) (hne : ds ≠ []) (hb : Ev c tb Γ kb (.int i)) (h1 : 0 ≤ i) (h2 : i ≤ 1000) (hl : ds.length ≤ 1000) : Ev c (tOp (rRepU c.K) ta tb) Γ .v (.tuple (List.replicate i.toNat ds).flatten) := fun H0 O H σ e Q q =>
  h H0 O H σ e _ fun v H1 r1 s1 => hb H0 O H1 σ (e.on r1) _ fun u H2 r2 s2 => by
    have b2 : Bo c (mns H2 O) v (.tuple ds) := Res.on (k := .v) e r1 r2 s1
    obtain ⟨a, xs, rfl, tp, al⟩ := b2.tup'
    have tq : SqT c.K H2 a xs := (sqT_same mns_same tp).sq
    have lx : xs.length = ds.length := al.len
    refine ⟨a, i, xs, rfl, (Res.bo (e.on r1) s2).int', tq, fun z => hne (List.eq_nil_of_length_eq_zero (by rw [← lx, z]; rfl)), h1, h2, by omega, fun z => ?_, fun _ => newTk (c := c) fun p H3 hp sm tp => ?_⟩
    · refine q _ H2 (r1.tr r2) ?_
      subst z
      have e1 : (List.replicate (1 : Int).toNat ds).flatten = ds := by simp
      rw [e1]
      exact b2
    · have r3 : Rr c H2 H3 := Rr.same sm
      have e2 := (e.on r1).on r2
      have rep : ∀ n : Nat, BoAll c (mns H2 O) (List.replicate n xs).flatten (List.replicate n ds).flatten := fun n => by
        induction n with
        | zero => exact .nil
        | succ n ih => rw [List.replicate_succ, List.replicate_succ, List.flatten_cons, List.flatten_cons]; exact al.app ih
      exact q _ H3 ((r1.tr r2).tr r3) (.tup (tpN_mns e2 r3 tp) ((rep _).mono e2.j (r3.mns e2.j e2.okO)))
end
end Lm


/-! readings that the intervals want -/
namespace Lm
open PySem PySem.Spec PyProof.Rows L2
theorem Asg.up {ns : List Int} {v w : Int} (h : Asg ns v) (hw : v ≤ w) : Asg ns w := ⟨h.len, fun n hn => ⟨(h.rng n hn).1, by have := (h.rng n hn).2; omega⟩⟩
section
variable {c : Ct} {H H' H0 H1 H2 H3 : Hp} {O : List Addr} {Γ Γ' Γ1 : List (Option Rs)}
variable {te ta tb tx ty : TE} {k ka kb kc : Kd} {d x y z : PyData}
end
end Lm


/-! all assignments of an allocation, in order; the one whose places ascend -/
namespace Lm
open PySem PySem.Spec PyProof.Rows L2
theorem nodup_sub {α : Type} [DecidableEq α] : ∀ {l m : List α}, l.Nodup → (∀ x ∈ l, x ∈ m) → l.length ≤ m.length
  | [], _, _, _ => Nat.zero_le _
  | a :: l, m, nd, h => by
    have nd' := List.nodup_cons.mp nd
    have ha := h a (by simp)
    have ih := nodup_sub (m := m.erase a) nd'.2 fun x hx => (List.mem_erase_of_ne (fun z => nd'.1 (by rw [← z]; exact hx))).mpr (h x (by simp [hx]))
    rw [List.length_erase_of_mem ha] at ih
    have := List.length_pos_of_mem ha
    simp only [List.length_cons]; omega
/-- its sorted list -/
def sortI (ns : List Int) : List Int := ns.mergeSort fun a b => decide (a ≤ b)
theorem sortI_pw (ns : List Int) : (sortI ns).Pairwise (· ≤ ·) := by
  have := List.pairwise_mergeSort (le := fun a b : Int => decide (a ≤ b)) (fun a b c h1 h2 => by simp at *; omega) (fun a b => by simp; omega) ns
  exact this.imp fun h => of_decide_eq_true h
theorem sortI_perm (ns : List Int) : (sortI ns).Perm ns := List.mergeSort_perm ..
theorem sortI_eq {ms ns : List Int} (p : ms.Perm ns) (w : ms.Pairwise (· ≤ ·)) : ms = sortI ns :=
  List.Perm.eq_of_pairwise (fun a b _ _ h1 h2 => Int.le_antisymm h1 h2) w (sortI_pw ns) (p.trans (sortI_perm ns).symm)
section
variable {c : Ct} {Γ : List (Option Rs)} {te : TE} {k : Kd}
end
end Lm


/-! t[::-1] of a tuple -/
namespace HT
open PySem PySem.W PySem.Calls PyProof.Rows
end HT
namespace Lm
open PySem PySem.Spec PyProof.Rows L2
section
variable {prog : Program} {w : World} {A : Around} {E : Value → Shared → Prop} {s : Shared}
theorem rev_places (n : Nat) : Builtin.Slice.slicePlaces ((n : Int) - 1) (-1) (-1) = n := by
  unfold Builtin.Slice.slicePlaces
  rw [if_neg (by decide)]
  by_cases h : (n : Int) - 1 > -1
  · rw [if_pos h, show -(-1 : Int) = 1 from rfl, Int.ediv_one]; omega
  · rw [if_neg h]; omega
theorem rev_pick (xs : Array Value) : ((List.range xs.size).filterMap fun (k : Nat) => xs[(((xs.size : Int) - 1) + (k : Int) * (-1)).toNat]?) = xs.toList.reverse := by
  have e : ∀ k ∈ List.range xs.size, xs[(((xs.size : Int) - 1) + (k : Int) * (-1)).toNat]? = some (xs.toList.reverse.getD k .none) := fun k hk => by
    have hk' := List.mem_range.mp hk
    have z : (((xs.size : Int) - 1) + (k : Int) * (-1)).toNat = xs.size - 1 - k := by omega
    rw [z, List.getD_eq_getElem?_getD, List.getElem?_reverse (by simpa using hk')]
    have h2 : xs.size - 1 - k < xs.size := by omega
    simp [h2]
  have gen : ∀ (l : List Nat) (F : Nat → Option Value) (G : Nat → Value), (∀ k ∈ l, F k = some (G k)) → l.filterMap F = l.map G := fun l F G h => by
    induction l with
    | nil => rfl
    | cons a l ih => rw [List.filterMap_cons, h a (by simp), List.map_cons, ih fun k hk => h k (by simp [hk])]
  have e2 := gen (List.range xs.size) (fun (k : Nat) => xs[(((xs.size : Int) - 1) + (k : Int) * (-1)).toNat]?) (fun k => xs.toList.reverse.getD k .none) e
  rw [e2]
  apply List.ext_getElem
  · simp
  · intro i h1 h2
    have h3 : i < xs.toList.reverse.length := h2
    simp only [List.getElem_map, List.getElem_range]
    rw [List.getD_eq_getElem?_getD, List.getElem?_eq_getElem h3]; rfl
theorem get_rev {t sl : Addr} {items : Array Value} {vs : Value} {Q : Value → Shared → Prop} (ht : IsTup s.heap t items) (hs : s.heap.IsSliceOf sl .none .none vs) (ps : IsPart vs (some (-1))) (hsz : items.size ≤ sizeLine)
    (h : Q (.ref s.heap.objs.size) { s with heap := s.heap.push { cls := .type "tuple", data := .seq items.toList.reverse.toArray } }) : wpAny (model prog w) A (getItem (.ref t) (.ref sl)) Q E s := by
  obtain ⟨os, hos, hcs, hds⟩ := id hs
  have hT : s.TypeIs (.ref sl) "slice" := ⟨os, hos, hcs⟩
  have hfit : PySem.sizeOk (Data.seq items.toList.reverse.toArray) := by
    show items.toList.reverse.toArray.size ≤ sizeLine
    simpa using hsz
  unfold getItem
  try with_reducible refine wpAny_holding ?_
  first | refine wpAny_bind (wpAny_pure ?_) | skip
  refine wpAny_bind (wpAny_sequenceKey ht.typeIs (by decide) (wpAny_bind (wpAny_callSpecial?_slot (name := Str.ofString "__getitem__") ht.typeIs PyProof.Rows.slot_tuple_getitem (wpAny_call_entry PyProof.Rows.slot_tuple_getitem ht.typeIs PyProof.Rows.entry_tuple_getitem ?_ (PyProof.Rows.args_tuple_getitem _ _)))))
  show wpAny _ _ (Builtin.Tuple.tupleItemsOf (.ref t) >>= _) _ _ s
  refine wpAny_bind (PyProof.Rows.tupleItemsOf_ ht (wpAny_bind (wpAny_typeOf hT ?_)))
  rw [if_pos (by decide)]
  have ap : ∀ {R : Int × Int × Nat → Shared → Prop} {E2 : Value → Shared → Prop} {A2 : Around}, R ((items.size : Int) - 1, -1, items.size) s → wpAny (model prog w) A2 (Builtin.Slice.sliceApplied (.ref sl) (pure (items.size : Int))) R E2 s := fun {R E2 A2} hR => by
    unfold Builtin.Slice.sliceApplied Builtin.Slice.sliceFields
    refine wpAny_bind (wpAny_bind (wpAny_field hos hds (x := .none) rfl (wpAny_bind (wpAny_field hos hds (x := .none) rfl (wpAny_bind (wpAny_field hos hds (x := vs) rfl (wpAny_pure ?_)))))))
    refine wpAny_bind (HT.slicePart_ ps ?_)
    show wpAny _ _ (if ((-1 : Int) == 0) = true then _ else _) _ _ s
    rw [if_neg (by decide)]
    refine wpAny_bind (HT.slicePart_ .none (wpAny_bind (HT.slicePart_ .none (wpAny_bind (wpAny_pure ?_)))))
    show wpAny _ _ (pure ((items.size : Int) - 1, (-1 : Int), Builtin.Slice.slicePlaces ((items.size : Int) - 1) (-1) (-1))) _ _ s
    rw [rev_places]
    exact wpAny_pure hR
  refine wpAny_bind (ap ?_)
  show wpAny _ _ (if (((items.size : Int) - 1) == 0 && (-1 : Int) == 1 && items.size == items.size) = true then _ else _) _ _ s
  rw [if_neg (by simp), rev_pick]
  first
    | exact wpAny_bind (m := Builtin.Tuple.tupleExact _) (wpAny_newObj_type (wpAny_pure ⟨_, rfl, wpAny_pure h⟩) hfit)
    | exact wpAny_bind (m := Builtin.Tuple.tupleExact _) (wpAny_newObj_type (wpAny_bind (wpAny_pure (wpAny_pure ⟨_, rfl, wpAny_pure h⟩))) hfit)
    | exact wpAny_bind (wpAny_bind (m := Builtin.Tuple.tupleExact _) (wpAny_newObj_type (wpAny_pure (wpAny_pure ⟨_, rfl, wpAny_pure h⟩)) hfit))
    | exact wpAny_bind (wpAny_bind (m := Builtin.Tuple.tupleExact _) (wpAny_newObj_type (wpAny_pure ⟨_, rfl, wpAny_pure h⟩) hfit))
end
def tRevT (K : PySem.W.Frag) (te : TE) : TE := fun σ H Q => te σ H fun x H1 => ∃ a xs, x = .ref a ∧ SqT K H1 a xs ∧ NewT H1 xs.reverse Q
theorem pe_revT {X : Cx} {K : PySem.W.Frag} (hK : X.K = K) {e : Expr} {te : TE} {k : Nat} {p1 p2 p3 pos : Pos} (he : PE X e te) : PE X (.Subscript e (.Slice none none (some (.UnaryOp .USub (.Constant (.int 1) k p1) p2)) p3) pos) (tRevT K te) := by
  subst hK
  refine ⟨fun pins s σ H Q I h => Subscript_ (thn (he.run pins s σ H _ I h) fun v s1 ⟨x, H1, I1, r1, a, xs, ex, hx, q⟩ => ?_)⟩
  subst ex
  cases r1
  have hst : PO X (some (.UnaryOp .USub (.Constant (.int 1) k p1) p2)) (tPart (tUn (rU fun i => .int (-i)) (tC (.int 1)))) := po_some (pe_un un_neg pe_int)
  refine wpAny_Slice (thn (po_none.run pins s1 σ H1 (fun o H2 => o = none ∧ H2 = H1) I1 ⟨rfl, rfl⟩) fun vl s2 ⟨l, H2, I2, pl, el, e2⟩ => ?_)
  subst el e2
  refine thn (po_none.run pins s2 σ H2 (fun o H3 => o = none ∧ H3 = H2) I2 ⟨rfl, rfl⟩) fun vu s3 ⟨u, H3, I3, pu, eu, e3⟩ => ?_
  subst eu e3
  refine thn (hst.run pins s3 σ H3 (fun o H4 => o = some (-1) ∧ H4 = H3) I3 ⟨1, rfl, -1, rfl, rfl, rfl⟩) fun vs s4 ⟨o, H4, I4, ps, eo, e4⟩ => ?_
  subst eo e4
  have evl : vl = .none := by cases pl; rfl
  have evu : vu = .none := by cases pu; rfl
  subst evl evu
  have I5 : Inv X pins σ H4 { s4 with heap := s4.heap.push { cls := .type "slice", data := .fields #[.none, .none, vs] } } := I4.kept (t' := s4.toks) fun b ob q => Heap.get?_push_of_some _ q
  obtain ⟨its, r, ht, hz⟩ := I5.tuple hx
  show wpAny (model X.prog X.w) X.A (subscriptTail e (.Slice none none (some (.UnaryOp .USub (.Constant (.int 1) k p1) p2)) p3) (.ref a) (.ref s4.heap.objs.size)) (EP X pins σ Q) X.xe { s4 with heap := s4.heap.push { cls := .type "slice", data := .fields #[.none, .none, vs] } }
  refine tail_any (ops := [.ref a, .ref s4.heap.objs.size]) ht.typeIs PyProof.Rows.slot_tuple_getitem.lookup (get_rev ht (Heap.IsSliceOf.new _ .none .none vs) ps (by rw [List.size_toArray, ← Paired.length r]; exact hz) ?_) (by with_unfolding_all rfl)
  exact newT I5 r.reverse (by rw [List.length_reverse]; exact hz) q
section
variable {c : Ct} {Γ : List (Option Rs)} {te : TE} {ds : List PyData}
theorem e_revT (h : Ev c te Γ .v (.tuple ds)) : Ev c (tRevT c.K te) Γ .v (.tuple ds.reverse) := fun H0 O H σ e Q q =>
  h H0 O H σ e _ fun v H1 r1 s1 => by
    obtain ⟨a, xs, rfl, tp, al⟩ := Bo.tup' (show Bo c (mns H1 O) v (.tuple ds) from s1)
    refine ⟨a, xs, rfl, (sqT_same mns_same tp).sq, newTk (c := c) fun p H2 hp sm tp2 => ?_⟩
    have r2 : Rr c H1 H2 := Rr.same sm
    have e1 := e.on r1
    have rv : ∀ {vs : List V} {es : List PyData}, BoAll c (mns H1 O) vs es → BoAll c (mns H1 O) vs.reverse es.reverse := fun {vs es} h => by
      induction h using BoAll.rec (motive_1 := fun _ _ _ => True) with
      | nil => exact .nil
      | cons a b _ ih => rw [List.reverse_cons, List.reverse_cons]; exact BoAll.app ih (.cons a .nil)
      | _ => trivial
    exact q _ H2 (r1.tr r2) (.tup (tpN_mns e1 r2 tp2) ((rv al).mono e1.j (r2.mns e1.j e1.okO)))
end
end Lm


/-! zip of two new lists, list + list of new ones; the intervals' ends -/
namespace Lm
open PySem PySem.Spec PyProof.Rows L2
section
variable {c : Ct} {H H' H0 H1 H2 H3 : Hp} {O : List Addr} {Γ Γ' Γ1 : List (Option Rs)}
variable {te ta tb tx ty : TE} {k ka kb kc : Kd} {d x y z : PyData} {ds es : List PyData}
theorem walk_zipLs {K : PySem.W.Frag} {p q : Addr} {xs ys : List V} {n : Nat} (hn : n = min xs.length ys.length) : Walk (Itz K p q) n (fun H => SqL K H p xs ∧ SqL K H q ys) (YPair (fun i => xs[i]?) (fun i => ys[i]?)) where
  goes := fun i _ hi w => ⟨xs, ys, xs[i]'(by omega), ys[i]'(by omega), w.1, w.2, List.getElem?_eq_getElem (by omega), List.getElem?_eq_getElem (by omega)⟩
  stops := fun _ w => ⟨xs, ys, w.1, w.2, by omega⟩
  yields := fun i H v H' _ w ⟨T, x, z, h1, h2, h3, h4, h5⟩ => ⟨T, x, z, h1, h2, h3, h4 xs w.1, h5 ys w.2⟩
end
end Lm


/-! the first history: each step's first change is the least one -/
namespace Lm
open PySem PySem.Spec PyProof.Rows L2
variable {v b : Int} {A T : List (List Int)} {as f r : List Int} {n : Nat}
/-- rows of the allocations' sizes -/
structure Tab (T A : List (List Int)) (v b : Int) : Prop where
  ser : Ser A v b
  len : T.length = A.length
  asg : ∀ t ∈ T, Asg t v ∧ (t.length : Int) = b
theorem Tab.at (h : Tab T A v b) (hn : n < A.length) : Asg (T.getD n []) v ∧ ((T.getD n []).length : Int) = b := by
  have := h.len
  have e : T.getD n [] = T[n] := by simp [List.getD_eq_getElem?_getD, show n < T.length by omega]
  rw [e]
  exact h.asg _ (List.getElem_mem (by omega))
section
variable {c : Ct} {H H' H0 H1 H2 H3 : Hp} {O : List Addr} {Γ Γ' Γ1 : List (Option Rs)} {te : TE} {k : Kd} {i : Int}
end
/-! of lists -/
end Lm


/-! itertools.combinations(range(n), k), walked -/
namespace CmbK
open PySem PySem.Spec PyProof.Rows L2
theorem mro_c : mroOf (.type "itertools.combinations") = pure [.type "itertools.combinations", .type "object"] := by rw [mroOf_type]; kernel_rfl
theorem new_c : typeLookup (.type "itertools.combinations") "__new__" = pure (some (.builtin "itertools.combinations.__new__")) := by rw [typeLookup_type, builtinLookup_eq_fast]; kernel_rfl
theorem init_c : Slot "itertools.combinations" "__init__" "object.__init__" :=
  .of (owner := "object") (n := "__init__") (by rw [typeLookup_type, builtinLookup_eq_fast]; kernel_rfl) (by decide +kernel) (by decide +kernel) (by decide +kernel) (by first | exact .inl (by decide +kernel) | exact .inr (by decide +kernel)) (by rw [isSubtype_type]; kernel_rfl)
theorem sub_c : isSubtype (.type "itertools.combinations") (.type "itertools.combinations") = pure true := by rw [isSubtype_type]; kernel_rfl
theorem called_c : TypeCalled "itertools.combinations" "itertools.combinations.__new__" "object.__init__" :=
  ⟨by decide +kernel, by decide +kernel, ⟨_, _, mro_c⟩, madeBy_type mro_c new_c (by decide +kernel), by decide +kernel, sub_c, init_c⟩
theorem tcall_c (a b : Value) : checkTypeCall "itertools.combinations" ⟨[a, b], []⟩ = pure () := by kernel_rfl
theorem ncall_c (a b : Value) : checkBuiltinCall "itertools.combinations.__new__" ⟨[.type "itertools.combinations", a, b], []⟩ = pure () := by kernel_rfl
theorem entryN_c : entryFor table "itertools.combinations.__new__" = some Builtin.«itertools.combinations.__new__» := entryFor_of_tree (by kernel_rfl)
theorem iter_c : Slot "itertools.combinations" "__iter__" "itertools.combinations.__iter__" :=
  .of (owner := "itertools.combinations") (n := "__iter__") (by rw [typeLookup_type, builtinLookup_eq_fast]; kernel_rfl) (by decide +kernel) (by decide +kernel) (by decide +kernel) (by first | exact .inl (by decide +kernel) | exact .inr (by decide +kernel)) sub_c
theorem next_c : Slot "itertools.combinations" "__next__" "itertools.combinations.__next__" :=
  .of (owner := "itertools.combinations") (n := "__next__") (by rw [typeLookup_type, builtinLookup_eq_fast]; kernel_rfl) (by decide +kernel) (by decide +kernel) (by decide +kernel) (by first | exact .inl (by decide +kernel) | exact .inr (by decide +kernel)) sub_c
theorem entryI_c : entryFor table "itertools.combinations.__iter__" = some Builtin.«dict_keyiterator.__iter__» :=
  entryFor_alias (id' := "dict_keyiterator.__iter__") (by kernel_rfl) (by first | rfl | decide +kernel | (unfold String.splitOn; simp +decide [String.splitOnAux])) (by decide +kernel) (by kernel_rfl)
theorem entryX_c : entryFor table "itertools.combinations.__next__" = some Builtin.«itertools.combinations.__next__» := entryFor_of_tree (by kernel_rfl)
theorem owner_c : Manifest.owners.lookup (String.ofList "itertools.combinations".toList.reverse.reverse) = some Manifest.sig_itertools_combinations := by kernel_rfl
theorem argsI_c (a : Value) : argsOk "itertools.combinations.__iter__" ⟨[a], []⟩ := by
  unfold argsOk; rw [signature?_of (id := "itertools.combinations.__iter__") (n := "__iter__".toList.reverse) (o := "itertools.combinations".toList.reverse) (by kernel_rfl) owner_c]; kernel_rfl
theorem argsX_c (a : Value) : argsOk "itertools.combinations.__next__" ⟨[a], []⟩ := by
  unfold argsOk; rw [signature?_of (id := "itertools.combinations.__next__") (n := "__next__".toList.reverse) (o := "itertools.combinations".toList.reverse) (by kernel_rfl) owner_c]; kernel_rfl
theorem noDict_c : typeHasDict (.type "itertools.combinations") = false := by decide +kernel
/-- the iterator: its items' tuple, 0 before the first item, 1 behind it, 2 at the end; what it handed out; the places -/
def cells (T : Addr) (st : Int) (bf : Value) (ks : List Nat) : Array Value := ([.ref T, .int st 0, bf] ++ ks.map fun (i : Nat) => Value.int i 0).toArray
abbrev IsCmb (h : Heap) (it T : Addr) (st : Int) (bf : Value) (ks : List Nat) : Prop := h.get? it = some { cls := .type "itertools.combinations", dict := none, data := .fields (cells T st bf ks), slots := #[] }
/-- the places that follow -/
def nxt (n : Nat) (ks : List Nat) : Option (List Nat) :=
  match (List.range ks.length).reverse.find? fun i => ks.getD i 0 != i + n - ks.length with
  | none => none
  | some i => some (ks.take i ++ (List.range (ks.length - i)).map (ks.getD i 0 + 1 + ·))
end CmbK


/-! itertools.combinations(range(n), k): made, its turns -/
namespace CmbK
open PySem PySem.Spec PyProof.Rows L2
theorem meets_new (r : Addr) (n : Nat) (k : Nat) (t u v tk0 : Tok) (hn : n ≤ 1000) (hk : k ≤ 1000) :
    Meets (Builtin.«itertools.combinations.__new__» ⟨[.type "itertools.combinations", .ref r, .int k tk0], []⟩)
      (fun A R s => A.handled = none ∧ IsRange s.heap r 0 n 1 t u v ∧ ∀ (h' : Heap) (tk : Nat) (acc : Array Value), (∀ b o, s.heap.get? b = some o → h'.get? b = some o) → ItemsOf (fun i v => ∃ t, v = .int (0 + i * 1) t) acc n →
        R (.ok (.ret (.ref (h'.objs.size + 1)))) { s with heap := (h'.push { cls := .type "tuple", data := .seq acc }).push { cls := .type "itertools.combinations", data := .fields (cells h'.objs.size (if n < k then 2 else 0) .none (List.range k)) }, toks := tk }) :=
  .of_wp fun prog w A R s h => by
    obtain ⟨hp, g, dd, tk, os⟩ := s
    obtain ⟨hh, hr, h⟩ := h
    have hsub := sub_c
    have hd := noDict_c
    have small : Builtin.Range.small 0 n 1 = true := small_one (by decide) (by decide) (by omega) (by omega)
    have size : Builtin.Range.rangeSize 0 n 1 = n := by rw [rangeSize_nat]; omega
    have col : ∀ {A' : Around} {E : Value → Shared → Prop} {Q : List Value → Shared → Prop}, A'.handled = none → (∀ (h' : Heap) (tk : Nat) (acc : Array Value), (∀ b o, hp.get? b = some o → h'.get? b = some o) → ItemsOf (fun i v => ∃ t, v = .int (0 + i * 1) t) acc n → Q acc.toList ⟨h', g, dd, tk, os⟩) → wpAny (model prog w) A' (collect (.ref r)) Q E ⟨hp, g, dd, tk, os⟩ :=
      fun hh' q => collect_range hh' hr small size (by omega) q
    have name : ("itertools." ++ "combinations" : String) = "itertools.combinations" := by decide
    wp_walk using @col
    rw [name]
    refine wpAny_of_eq hsub ?_
    simp only [Bool.not_true, Bool.false_eq_true, if_false]
    wp_walk using @col
    rw [if_neg (by simp only [Bool.or_eq_true, decide_eq_true_eq]; omega)]
    refine wpAny_pure ?_
    refine wpAny_bind (col hh fun h' tk' acc hk hi => ?_)
    have big : Builtin.Itertools.itTooMany (k : Int) = false := decide_eq_false (by omega)
    have sz : acc.toList.length = n := by rw [Array.length_toList]; exact hi.1
    rw [if_neg (by omega), big]
    simp only [Bool.false_eq_true, if_false]
    refine wpAny_bind (wpAny_newTuple (wpAny_pure ?_))
    refine wpAny_bind ?_
    unfold Builtin.Itertools.itNewRecord
    simp only [hd]
    simp only [Bool.not_false, if_true]
    refine wpAny_newObj_type ?_ (show Array.size _ ≤ sizeLine + 2 by rw [List.size_toArray, List.length_append, List.length_map, List.length_range, Int.toNat_natCast, sizeLine_eq]; simp only [List.length_cons, List.length_nil]; omega)
    refine wpAny_pure ⟨_, rfl, ?_⟩
    have w := h h' tk' acc hk hi
    have e1 : (h'.push { cls := .type "tuple", data := .seq acc }).objs.size = h'.objs.size + 1 := Heap.size_push ..
    rw [Array.toArray_toList, e1, Int.toNat_natCast, sz]
    exact w
end CmbK


/-! itertools.combinations: its turns -/
namespace CmbK
open PySem PySem.Spec PyProof.Rows L2
theorem cells_st (T : Addr) (st st' : Int) (bf : Value) (ks : List Nat) : (cells T st bf ks).setIfInBounds 1 (.int st' 0) = cells T st' bf ks := by
  unfold cells
  simp
theorem cells_bf (T : Addr) (st : Int) (bf bf' : Value) (ks : List Nat) : (cells T st bf ks).setIfInBounds 2 bf' = cells T st bf' ks := by
  unfold cells
  simp
theorem cells_set (T : Addr) (st : Int) (bf : Value) (ks ls : List Nat) : (cells T st bf ks).extract 0 3 ++ (ls.map fun (n : Nat) => rawInt n).toArray = cells T st bf ls := by
  unfold cells
  simp [rawInt]
/-- the items at these places -/
def picks (xs : Array Value) (ks : List Nat) : List Value := ks.map fun i => xs.getD i .none
section
variable {prog : Program} {w : World} {A : Around} {E : Value → Shared → Prop} {s : Shared} {it T : Addr} {bf : Value} {ks : List Nat} {xs : Array Value}
theorem nums_from {st : Int} {Q : List Nat → Shared → Prop} (hz : IsCmb s.heap it T st bf ks) (h : Q ks s) : wpAny (model prog w) A (Builtin.Itertools.itNumbersFrom (.ref it) 3) Q E s := by
  have key : ∀ l, l = ks → Q l s := fun l e => e ▸ h
  unfold Builtin.Itertools.itNumbersFrom
  refine wpAny_bind (wpAny_load hz (wpAny_pure (key _ ?_)))
  show List.map _ (ks.map fun (i : Nat) => Value.int i 0) = ks
  rw [List.map_map]
  conv => rhs; rw [← List.map_id ks]
  apply List.map_congr_left
  intro i _
  simp
/-- the items at the places, handed out -/
theorem hand_out {st : Int} {ls : List Nat} {Q : Value → Shared → Prop} (hz : IsCmb s.heap it T st bf ks) (hT : s.heap.IsTuple T xs) (hl : ls.length ≤ 1000)
    (hQ : ∀ h', IsCmb h' it T st (.ref s.heap.objs.size) ks → h'.get? s.heap.objs.size = some { cls := .type "tuple", data := .seq (picks xs ls).toArray } → h'.objs.size = s.heap.objs.size + 1 →
      (∀ c o, c ≠ it → s.heap.get? c = some o → h'.get? c = some o) → Q (.ref s.heap.objs.size) { s with heap := h' }) :
    wpAny (model prog w) A (newTuple (ls.map fun i => xs.getD i .none)) (fun result s1 => wpAny (model prog w) A (field (.ref it) 2 >>= fun before => setField (.ref it) 2 result >>= fun _ => letGo [before] [result] >>= fun _ => ret result) (fun fin s' => ∃ v, fin = .done (.ret v) ∧ Q v s') E s1) E s := by
  refine wpAny_newTuple ?_ (by rw [List.length_map, sizeLine_eq]; omega)
  have lt : it < s.heap.objs.size := Heap.lt_size hz
  have hz1 : IsCmb (s.heap.push { cls := .type "tuple", data := .seq (picks xs ls).toArray }) it T st bf ks := Heap.get?_push_of_some _ hz
  refine wpAny_bind (wpAny_field hz1 rfl (x := bf) rfl ?_)
  refine wpAny_bind (wpAny_setField_rec hz1 (by simp [cells]) fun h2 hz2 hs2 => ?_)
  rw [cells_bf] at hz2
  refine wpAny_bind (wpAny_letGo (wpAny_pure ⟨_, rfl, ?_⟩))
  replace hs2 : Heap.SameBut it (s.heap.push { cls := .type "tuple", data := .seq (picks xs ls).toArray }) h2 := hs2
  refine hQ h2 hz2 (hs2.extBut _ _ (Nat.ne_of_gt lt) (Heap.get?_push_size _ rfl)) (by rw [hs2.1, Heap.size_push]) fun c o ce q => hs2.extBut _ _ ce (Heap.get?_push_of_some _ q)
theorem notT {st : Int} {h : Heap} (hz : IsCmb h it T st bf ks) (hT : h.IsTuple T xs) : T ≠ it := fun e => by
  obtain ⟨o, ho, hc, _⟩ := id hT
  rw [e, hz] at ho
  cases ho
  simp at hc
/-- the first item -/
theorem turn_first {Q : Value → Shared → Prop} (hl : ks.length ≤ 1000) (hz : IsCmb s.heap it T 0 bf ks) (hT : s.heap.IsTuple T xs)
    (hQ : ∀ h', IsCmb h' it T 1 (.ref s.heap.objs.size) ks → h'.get? s.heap.objs.size = some { cls := .type "tuple", data := .seq (picks xs ks).toArray } → h'.objs.size = s.heap.objs.size + 1 →
      (∀ c o, c ≠ it → s.heap.get? c = some o → h'.get? c = some o) → Q (.ref s.heap.objs.size) { s with heap := h' }) :
    wpAny (model prog w) A (Builtin.«itertools.combinations.__next__» ⟨[.ref it], []⟩) (fun fin s' => ∃ v, fin = .done (.ret v) ∧ Q v s') E s := by
  show wpAny _ _ (field (.ref it) 0 >>= _) _ _ s
  refine wpAny_bind (wpAny_field hz rfl (x := .ref T) rfl ?_)
  show wpAny _ _ (Builtin.Itertools.itNumbersFrom (.ref it) 3 >>= _) _ _ s
  refine wpAny_bind (nums_from hz ?_)
  show wpAny _ _ (Builtin.Itertools.itIntField (.ref it) 1 >>= _) _ _ s
  refine wpAny_bind (wpAny_bind (wpAny_field hz rfl (x := .int 0 0) rfl (wpAny_pure ?_)))
  show wpAny _ _ (setField (.ref it) 1 (rawInt 1) >>= _) _ _ s
  refine wpAny_bind (wpAny_setField_rec hz (by simp [cells]) fun h1 hz1 hs1 => ?_)
  rw [show rawInt 1 = Value.int 1 0 from rfl, cells_st] at hz1
  replace hs1 : Heap.SameBut it s.heap h1 := hs1
  have hT1 : h1.IsTuple T xs := let ⟨o, ho, r⟩ := hT; ⟨o, hs1.extBut _ _ (notT hz hT) ho, r⟩
  obtain ⟨o, ho, _, n, hd⟩ := id hT1
  show wpAny _ _ ((Builtin.Itertools.itPoolItems (.ref T) >>= fun items => newTuple (ks.map fun i => items.getD i .none)) >>= _) _ _ _
  refine wpAny_bind (wpAny_bind (wpAny_bind (wpAny_seqItems ho hd (wpAny_pure ?_))))
  exact hand_out (s := { s with heap := h1 }) hz1 hT1 hl fun h2 z2 t2 n2 k2 => by
    have n1 : h1.objs.size = s.heap.objs.size := hs1.1
    replace z2 : IsCmb h2 it T 1 (.ref h1.objs.size) ks := z2
    replace t2 : h2.get? h1.objs.size = some { cls := .type "tuple", data := .seq (picks xs ks).toArray } := t2
    replace n2 : h2.objs.size = h1.objs.size + 1 := n2
    show Q (.ref h1.objs.size) { s with heap := h2 }
    rw [n1] at z2 t2 n2 ⊢
    exact hQ h2 z2 t2 n2 fun c o ce q => k2 c o ce (hs1.extBut _ _ ce q)
/-- an item behind the first one -/
theorem turn_next {Q : Value → Shared → Prop} {ls : List Nat} (hl : ls.length ≤ 1000) (hz : IsCmb s.heap it T 1 bf ks) (hT : s.heap.IsTuple T xs) (hn : nxt xs.size ks = some ls)
    (hQ : ∀ h', IsCmb h' it T 1 (.ref s.heap.objs.size) ls → h'.get? s.heap.objs.size = some { cls := .type "tuple", data := .seq (picks xs ls).toArray } → h'.objs.size = s.heap.objs.size + 1 →
      (∀ c o, c ≠ it → s.heap.get? c = some o → h'.get? c = some o) → Q (.ref s.heap.objs.size) { s with heap := h' }) :
    wpAny (model prog w) A (Builtin.«itertools.combinations.__next__» ⟨[.ref it], []⟩) (fun fin s' => ∃ v, fin = .done (.ret v) ∧ Q v s') E s := by
  show wpAny _ _ (field (.ref it) 0 >>= _) _ _ s
  refine wpAny_bind (wpAny_field hz rfl (x := .ref T) rfl ?_)
  show wpAny _ _ (Builtin.Itertools.itNumbersFrom (.ref it) 3 >>= _) _ _ s
  refine wpAny_bind (nums_from hz ?_)
  show wpAny _ _ (Builtin.Itertools.itIntField (.ref it) 1 >>= _) _ _ s
  refine wpAny_bind (wpAny_bind (wpAny_field hz rfl (x := .int 1 0) rfl (wpAny_pure ?_)))
  obtain ⟨o, ho, _, n, hd⟩ := id hT
  show wpAny _ _ (Builtin.Itertools.itPoolItems (.ref T) >>= _) _ _ s
  refine wpAny_bind (wpAny_bind (wpAny_seqItems ho hd (wpAny_pure ?_)))
  show wpAny _ _ (match nxt xs.size ks with | some next => _ | none => _) _ _ s
  rw [hn]
  show wpAny _ _ (Builtin.Itertools.itSetNumbersFrom (.ref it) 3 ls >>= _) _ _ s
  refine wpAny_bind (wpAny_updateFields hz rfl ?_ (by rw [cells_set]; simp [cells, sizeLine_eq]; omega))
  have hz1 := Heap.get?_update_self (Obj.mapFields fun fs => fs.extract 0 3 ++ (ls.map fun (n : Nat) => rawInt n).toArray) hz rfl
  have e1 : (Obj.mapFields (fun fs => fs.extract 0 3 ++ (ls.map fun (n : Nat) => rawInt n).toArray) { cls := .type "itertools.combinations", data := .fields (cells T 1 bf ks) }) = { cls := .type "itertools.combinations", dict := none, data := .fields (cells T 1 bf ls), slots := #[] } := by
    rw [← cells_set T 1 bf ks ls]
    rfl
  rw [e1] at hz1
  have sb : Heap.SameBut it s.heap (s.heap.update it (Obj.mapFields fun fs => fs.extract 0 3 ++ (ls.map fun (n : Nat) => rawInt n).toArray)) := Heap.SameBut.update ..
  generalize s.heap.update it (Obj.mapFields fun fs => fs.extract 0 3 ++ (ls.map fun (n : Nat) => rawInt n).toArray) = h1 at hz1 sb
  have hT1 : h1.IsTuple T xs := let ⟨o, ho, r⟩ := hT; ⟨o, sb.extBut _ _ (notT hz hT) ho, r⟩
  obtain ⟨o', ho', _, n', hd'⟩ := id hT1
  show wpAny _ _ ((Builtin.Itertools.itPoolItems (.ref T) >>= fun items => newTuple (ls.map fun i => items.getD i .none)) >>= _) _ _ _
  refine wpAny_bind (wpAny_bind (wpAny_bind (wpAny_seqItems ho' hd' (wpAny_pure ?_))))
  exact hand_out (s := { s with heap := h1 }) hz1 hT1 hl fun h2 z2 t2 n2 k2 => by
    have n1 : h1.objs.size = s.heap.objs.size := sb.1
    replace z2 : IsCmb h2 it T 1 (.ref h1.objs.size) ls := z2
    replace t2 : h2.get? h1.objs.size = some { cls := .type "tuple", data := .seq (picks xs ls).toArray } := t2
    replace n2 : h2.objs.size = h1.objs.size + 1 := n2
    show Q (.ref h1.objs.size) { s with heap := h2 }
    rw [n1] at z2 t2 n2 ⊢
    exact hQ h2 z2 t2 n2 fun c o ce q => k2 c o ce (sb.extBut _ _ ce q)
/-- StopIteration -/
theorem stops {Q : Fin → Shared → Prop} (hh : A.handled = none) (hE : ∀ e h', (∀ c o, s.heap.get? c = some o → h'.get? c = some o) → (∃ o, h'.get? e = some o ∧ o.cls = .type "StopIteration") → E (.ref e) { s with heap := h' }) :
    wpAny (model prog w) A (Builtin.Itertools.itStop (α := Fin)) Q E s := by
  unfold Builtin.Itertools.itStop
  refine wpAny_bind ?_
  simp only [newExc, newTuple]
  refine wpAny_bind (wpAny_newObj_type ?_ (by size_fits))
  refine wpAny_bind (m := firstArgMember _ _) (wpAny_of_eq (a := Value.none) (by first | rfl | (simp only [firstArgMember]; rfl)) ?_)
  refine wpAny_newObj_type ?_ (by size_fits)
  simp only [raiseNew]
  refine wpAny_bind (wpAny_handled ?_)
  rw [hh]
  refine wpAny_bind (wpAny_pure (wpAny_throw ?_))
  exact hE _ _ (fun c o q => Heap.get?_push_of_some _ (Heap.get?_push_of_some _ q)) ⟨_, Heap.get?_push_size _ rfl, rfl⟩
/-- at its end: behind the last item, or there never was one -/
theorem turn_end {st : Int} {Q : Fin → Shared → Prop} (hh : A.handled = none) (hz : IsCmb s.heap it T st bf ks) (hT : s.heap.IsTuple T xs) (hn : (st = 1 ∧ nxt xs.size ks = none) ∨ st = 2)
    (hE : ∀ e h', (∀ c o, c ≠ it → s.heap.get? c = some o → h'.get? c = some o) → (∃ o, h'.get? e = some o ∧ o.cls = .type "StopIteration") → E (.ref e) { s with heap := h' }) :
    wpAny (model prog w) A (Builtin.«itertools.combinations.__next__» ⟨[.ref it], []⟩) Q E s := by
  show wpAny _ _ (field (.ref it) 0 >>= _) _ _ s
  refine wpAny_bind (wpAny_field hz rfl (x := .ref T) rfl ?_)
  show wpAny _ _ (Builtin.Itertools.itNumbersFrom (.ref it) 3 >>= _) _ _ s
  refine wpAny_bind (nums_from hz ?_)
  show wpAny _ _ (Builtin.Itertools.itIntField (.ref it) 1 >>= _) _ _ s
  refine wpAny_bind (wpAny_bind (wpAny_field hz rfl (x := .int st 0) rfl (wpAny_pure ?_)))
  rcases hn with ⟨rfl, hn⟩ | rfl
  · obtain ⟨o, ho, _, n, hd⟩ := id hT
    show wpAny _ _ (Builtin.Itertools.itPoolItems (.ref T) >>= _) _ _ s
    refine wpAny_bind (wpAny_bind (wpAny_seqItems ho hd (wpAny_pure ?_)))
    show wpAny _ _ (match nxt xs.size ks with | some next => _ | none => _) _ _ s
    rw [hn]
    show wpAny _ _ (setField (.ref it) 1 (rawInt 2) >>= _) _ _ s
    refine wpAny_bind (wpAny_setField_rec hz (by simp [cells]) fun h1 _ hs1 => ?_)
    replace hs1 : Heap.SameBut it s.heap h1 := hs1
    exact stops (s := { s with heap := h1 }) hh fun e h' k x => hE e h' (fun c o ce q => k c o (hs1.extBut _ _ ce q)) x
  · show wpAny _ _ (rule "itertools.combinations.ended" >>= _) _ _ s
    refine wpAny_bind (wpAny_rule ?_)
    exact stops hh fun e h' k x => hE e h' (fun c o _ q => k c o q) x
/-- next(c) -/
theorem py_next {st : Int} {Q : Option Value → Shared → Prop} (hz : IsCmb s.heap it T st bf ks)
    (h : ∀ E' : Value → Shared → Prop, wpAny (model prog w) A.in1 (Builtin.«itertools.combinations.__next__» ⟨[.ref it], []⟩) (fun fin s' => ∃ v, fin = .done (.ret v) ∧ Q (some v) s') E' s) : wpAny (model prog w) A (pyNext (.ref it)) Q E s := by
  have hC : s.TypeIs (.ref it) "itertools.combinations" := ⟨_, hz, rfl⟩
  unfold pyNext
  refine wpAny_bind (wpAny_attempt (wpAny_callSpecial?_slot (name := Str.ofString "__next__") hC next_c (wpAny_call_entry next_c hC entryX_c ?_ (argsX_c _))))
  refine wpAny_mono (h _) (fun fin s' ⟨v, e, q⟩ => ?_) fun _ _ y => y
  subst e
  exact ⟨v, rfl, wpAny_pure q⟩
theorem py_end {st : Int} {Q : Option Value → Shared → Prop} (hh : A.handled = none) (hz : IsCmb s.heap it T st bf ks) (hT : s.heap.IsTuple T xs) (hn : (st = 1 ∧ nxt xs.size ks = none) ∨ st = 2)
    (hQ : ∀ h', (∀ c o, c ≠ it → s.heap.get? c = some o → h'.get? c = some o) → Q none { s with heap := h' }) : wpAny (model prog w) A (pyNext (.ref it)) Q E s := by
  have hC : s.TypeIs (.ref it) "itertools.combinations" := ⟨_, hz, rfl⟩
  unfold pyNext
  refine wpAny_bind (wpAny_attempt (wpAny_callSpecial?_slot (name := Str.ofString "__next__") hC next_c (wpAny_call_entry next_c hC entryX_c ?_ (argsX_c _))))
  refine turn_end (A := A.in1) hh hz hT hn fun e h' k ⟨o, ho, hc⟩ => ?_
  refine wpAny_bind (wpAny_isInstance (T := "StopIteration") (b := true) ⟨o, ho, hc⟩ isSubtype_stop ?_)
  exact wpAny_pure (hQ _ k)
theorem py_iter {st : Int} {Q : Value → Shared → Prop} (hz : IsCmb s.heap it T st bf ks) (h : Q (.ref it) s) : wpAny (model prog w) A (pyIter (.ref it)) Q E s := by
  have hC : s.TypeIs (.ref it) "itertools.combinations" := ⟨_, hz, rfl⟩
  refine wpAny_pyIter_slot hC iter_c (wpAny_call_entry iter_c hC entryI_c ?_ (argsI_c _))
  show wpAny _ _ (ret (.ref it)) _ _ s
  exact wpAny_pure ⟨_, rfl, "itertools.combinations", _, hC, next_c.lookup, h⟩
end
end CmbK


/-! for t in itertools.combinations(range(n), k) -/
namespace Lm
open PySem PySem.Spec PyProof.Rows L2 CmbK
/-- all places, one after another -/
structure PlacesOk (n k : Nat) (seq : List (List Nat)) : Prop where
  len : ∀ ks ∈ seq, ks.length = k ∧ ∀ i ∈ ks, i < n
  first : n < k ∧ seq = [] ∨ ¬ n < k ∧ seq[0]? = some (List.range k)
  next : ∀ i ks, seq[i]? = some ks → nxt n ks = seq[i + 1]?
def Itc (seq : List (List Nat)) : It where
  go := fun i _ => i < seq.length
  yld := fun i H v H' => ∃ (T : Addr) (o : Obj) (ks : List Nat), seq[i]? = some ks ∧ v = .ref T ∧ o.dict = none ∧ H T = none ∧ H' = upd H T (.frz o (.tup (ks.map fun (i : Nat) => V.int i)))
  stop := fun i _ => i = seq.length
theorem vals_picks {xs : Array Value} {n : Nat} (hx : ItemsOf (fun i v => ∃ t, v = .int (0 + i * 1) t) xs n) : ∀ {ks : List Nat}, (∀ i ∈ ks, i < n) → Vals (ks.map fun (i : Nat) => V.int i) (picks xs ks)
  | [], _ => .nil
  | k :: ks, h => by
    refine .cons ?_ (vals_picks hx fun i hi => h i (List.mem_cons_of_mem _ hi))
    have hk : k < xs.size := by rw [hx.1]; exact h k (by simp)
    obtain ⟨t, e⟩ := hx.2 k xs[k] (Array.getElem?_eq_getElem hk)
    refine ⟨t, ?_⟩
    show xs.getD k .none = _
    rw [Array.getD_eq_getD_getElem?, Array.getElem?_eq_getElem hk, Option.getD_some, e, Int.zero_add, Int.mul_one]
theorem turnCmb {P : Program} {w : World} {K : PySem.W.Frag} {tg : Expr} {it T : Addr} {n k : Nat} {seq : List (List Nat)} {xs : Array Value} (ok : PlacesOk n k seq) (hk : k ≤ 1000) (hx : ItemsOf (fun i v => ∃ t, v = .int (0 + i * 1) t) xs n) :
    Turn P w K tg (Itc seq) [it, T] it fun i h => ∃ bf st ks, IsCmb h it T st bf ks ∧ h.IsTuple T xs ∧ ((i = 0 ∧ st = 0 ∧ seq[0]? = some ks) ∨ (∃ j, i = j + 1 ∧ st = 1 ∧ seq[j]? = some ks) ∨ (seq = [] ∧ st = 2)) where
  mem := List.mem_cons_self
  obj := by
    rintro i h ⟨bf, st, ks, hz, ⟨o, ho, hc, m, hd⟩, _⟩ c hc'
    have e' : c = it ∨ c = T := by simpa using hc'
    rcases e' with q | q
    · rw [q]; exact ⟨_, hz, fun v q => nomatch q⟩
    · rw [q]; exact ⟨o, ho, fun v q => by rw [hd] at q; cases q⟩
  keep := by
    rintro i h h' ⟨bf, st, ks, hz, ⟨o, ho, r⟩, cs⟩ kk
    exact ⟨bf, st, ks, kk it (by simp) _ hz, ⟨o, kk T (by simp) _ ho, r⟩, cs⟩
  item := by
    intro X hP hw hK hc i pins s σ H E I hf ⟨bf, st, ks, hz, hT, cs⟩ hgo
    subst hP hw hK
    have hgo' : i < seq.length := hgo
    obtain ⟨ls, hls⟩ : ∃ ls, seq[i]? = some ls := ⟨_, List.getElem?_eq_getElem hgo'⟩
    obtain ⟨ll, lr⟩ := ok.len ls (List.mem_of_getElem? hls)
    have lx : xs.size = n := hx.1
    have lt : it < s.heap.objs.size := Heap.lt_size hz
    have ltT : T < s.heap.objs.size := by obtain ⟨o, ho, _⟩ := id hT; exact Heap.lt_size ho
    have neT := notT hz hT
    have step : ∀ {E' : Value → Shared → Prop} {Q : Value → Shared → Prop}, (∀ h', IsCmb h' it T 1 (.ref s.heap.objs.size) ls → h'.get? s.heap.objs.size = some { cls := .type "tuple", data := .seq (picks xs ls).toArray } → h'.objs.size = s.heap.objs.size + 1 →
        (∀ c o, c ≠ it → s.heap.get? c = some o → h'.get? c = some o) → Q (.ref s.heap.objs.size) { s with heap := h' }) →
        wpAny (model X.prog X.w) X.A.in1 (Builtin.«itertools.combinations.__next__» ⟨[.ref it], []⟩) (fun fin s' => ∃ v, fin = .done (.ret v) ∧ Q v s') E' s := fun {E' Q} hQ => by
      rcases cs with ⟨rfl, rfl, h0⟩ | ⟨j, rfl, rfl, hj⟩ | ⟨rfl, _⟩
      · rw [h0] at hls
        cases Option.some.inj hls
        exact turn_first (by omega) hz hT hQ
      · exact turn_next (by omega) hz hT (by rw [lx, ok.next j ks hj]; exact hls) hQ
      · simp at hgo'
    refine py_next hz fun E' => step fun h' z t nn kk => ⟨_, rfl, go_of (s := { s with heap := h' }) z rfl rfl (by decide) ?_⟩
    have I1 : Inv X pins σ (upd H s.heap.objs.size (.frz { cls := .type "tuple", data := .seq (picks xs ls).toArray } (.tup (ls.map fun (i : Nat) => V.int i)))) { s with heap := h' } :=
      I.turnedNew (t' := s.toks) (ch := [it]) (fun c o hb q => kk c o (fun q' => hb (by simp [q'])) q) (fun c hc => hf c (by simp at hc; simp [hc])) (Nat.le_refl _)
        ⟨t, by rw [List.length_map, sizeLine_eq]; omega, picks xs ls, vals_picks hx lr, ⟨_, t, rfl, _, rfl⟩⟩
    refine ⟨.ref s.heap.objs.size, _, I1, rfl, ⟨_, _, ls, hls, rfl, rfl, I.hok.fresh (Nat.le_refl _), rfl⟩, ⟨_, 1, ls, z, let ⟨o, ho, r⟩ := hT; ⟨o, kk _ _ neT ho, r⟩, .inr (.inl ⟨i, rfl, rfl, hls⟩)⟩, fun c hc => ?_⟩
    have lc : c < s.heap.objs.size := by
      have e' : c = it ∨ c = T := by simpa using hc
      rcases e' with q | q
      · rw [q]; exact lt
      · rw [q]; exact ltT
    rw [upd_ne (Nat.ne_of_lt lc)]
    exact (hf c hc).1
  done := by
    intro X hP hw hK hc i pins s σ H E I hf ⟨bf, st, ks, hz, hT, cs⟩ hst
    subst hP hw hK
    have hst' : i = seq.length := hst
    have lx : xs.size = n := hx.1
    refine py_end (I.ok.hd hc) hz hT ?_ fun h' kk => ⟨rfl, I.turnedL (t' := s.toks) (ch := [it, T]) (fun c o hb q => kk c o (fun q' => hb (by simp [q'])) q) hf⟩
    rcases cs with ⟨rfl, rfl, h0⟩ | ⟨j, rfl, rfl, hj⟩ | ⟨_, rfl⟩
    · rw [List.getElem?_eq_none (by omega)] at h0; cases h0
    · exact .inl ⟨rfl, by rw [lx, ok.next j ks hj, List.getElem?_eq_none (by omega)]⟩
    · exact .inr rfl
  self := fun A i s Q E ⟨bf, st, ks, hz, _⟩ h => py_iter hz h
/-- a range just made and a number: all places of so many of its items -/
def iComb (ta : TA) : TI := fun σ H R => ta σ H fun vs H1 => ∃ (p : Addr) (n k : Nat) (seq : List (List Nat)), vs = [.ref p, .int k] ∧ H1 p = some (.rng 0 n) ∧ n ≤ 1000 ∧ k ≤ 1000 ∧ PlacesOk n k seq ∧ R (Itc seq) H1
theorem pi_comb {X : Cx} {tg e e2 : Expr} {x : Str} {ta : TA} {p pos : Pos} (hc : X.calm = true) (hg : Gl X x) (hm : X.mg x = some (.type "itertools.combinations")) (ha : PA X [e, e2] ta) (hdb : (x == ("__debug__" : Str)) = false := by decide)
    (hs : starEach [e, e2] X.env = (false, eval e X.env) :: starEach [e2] X.env := by rfl) (hpl : (backTo pos (starEach [e2] X.env)).any (·.1) = false := by rfl) :
    PI X tg (.Call (.Name x p) [e, e2] [] pos) (iComb ta) := by
  refine ⟨fun pins s σ H R I h => ?_⟩
  refine wpAny_Call_Name_kw (ld_glob I hg hm (PyProof.Rows.callWith_type1 (thn (ha.run pos pins s σ H _ I h) fun us s1 ⟨vs, H1, I1, r1, q1⟩ => ?_) hs hpl) hdb)
  obtain ⟨a, n, k, seq, ev, hp, hn, hk, ok, q⟩ := q1
  subst ev
  cases r1 with
  | cons ra rr =>
    cases rr with
    | cons rb rr =>
      cases rr
      cases ra
      obtain ⟨tk0, rfl⟩ := rb
      obtain ⟨t, u, w, hr⟩ := I1.hok a _ hp
      refine callType_new called_c (by decide +kernel) (tcall_c _ _) (ncall_c _ _) (fun obj => PySem.F.args_object_init_3 obj _ _) entryN_c (meets_new a n k t u w tk0 hn hk) ⟨I1.ok.hd hc, hr, fun h' tk acc kk hi => ?_⟩
      have e1 : (h'.push { cls := .type "tuple", data := .seq acc }).objs.size = h'.objs.size + 1 := Heap.size_push ..
      have gT : (h'.push { cls := .type "tuple", data := .seq acc }).get? h'.objs.size = some { cls := .type "tuple", data := .seq acc } := Heap.get?_push_size _ rfl
      have gI : ((h'.push { cls := .type "tuple", data := .seq acc }).push { cls := .type "itertools.combinations", data := .fields (cells h'.objs.size (if n < k then 2 else 0) .none (List.range k)) }).get? (h'.objs.size + 1) = some { cls := .type "itertools.combinations", data := .fields (cells h'.objs.size (if n < k then 2 else 0) .none (List.range k)) } := by
        rw [← e1]
        exact Heap.get?_push_size _ rfl
      have gT2 : ((h'.push { cls := .type "tuple", data := .seq acc }).push { cls := .type "itertools.combinations", data := .fields (cells h'.objs.size (if n < k then 2 else 0) .none (List.range k)) }).get? h'.objs.size = some { cls := .type "tuple", data := .seq acc } := Heap.get?_push_of_some _ gT
      have up : ∀ b o, s1.heap.get? b = some o → ((h'.push { cls := .type "tuple", data := .seq acc }).push { cls := .type "itertools.combinations", data := .fields (cells h'.objs.size (if n < k then 2 else 0) .none (List.range k)) }).get? b = some o := fun b o z => Heap.get?_push_of_some _ (Heap.get?_push_of_some _ (kk b o z))
      have I' : Inv X pins σ H1 { s1 with heap := h', toks := tk } := I1.kept kk
      generalize (h'.push { cls := .type "tuple", data := .seq acc }).push { cls := .type "itertools.combinations", data := .fields (cells h'.objs.size (if n < k then 2 else 0) .none (List.range k)) } = hp2 at gI gT2 up
      have I2 : Inv X pins σ H1 { s1 with heap := hp2, toks := tk } := I1.kept up
      refine ⟨⟨_, gI, rfl⟩, py_iter gI ⟨h'.objs.size + 1, [h'.objs.size + 1, h'.objs.size], _, Itc seq, H1, rfl, I2, turnCmb ok hk hi, ⟨.none, _, List.range k, gI, ⟨_, gT2, rfl, _, rfl⟩, ?_⟩, fun b hb => ?_, q⟩⟩
      · rcases ok.first with ⟨z, w⟩ | ⟨z, w⟩
        · exact .inr (.inr ⟨w, if_pos z⟩)
        · exact .inl ⟨rfl, if_neg z, w⟩
      · have le : h'.objs.size ≤ b := by
          have e' : b = h'.objs.size + 1 ∨ b = h'.objs.size := by simpa using hb
          rcases e' with z | z
          · rw [z]; exact Nat.le_succ _
          · rw [z]; exact Nat.le_refl _
        exact I'.fpOk le (I'.hok.fresh le)
theorem walk_comb {seq : List (List Nat)} : Walk (Itc seq) seq.length (fun _ => True) fun i H v H' => ∃ (T : Addr) (o : Obj) (ks : List Nat), seq[i]? = some ks ∧ v = .ref T ∧ o.dict = none ∧ H T = none ∧ H' = upd H T (.frz o (.tup (ks.map fun (i : Nat) => V.int i))) where
  goes := fun _ _ hi _ => hi
  stops := fun _ _ => rfl
  yields := fun _ _ _ _ _ _ h => h
section
variable {c : Ct} {Γ : List (Option Rs)} {te : TE} {kd : Kd}
def plcD (ks : List Nat) : PyData := .tuple ((ks.map fun (i : Nat) => (i : Int)).map .int)
/-- for t in combinations(range(n), k) -/
theorem i_comb {n k : Nat} {seq : List (List Nat)} (h : Ev c te Γ kd (.int (n : Int))) (hn : n ≤ 1000) (hk : k ≤ 1000) (ok : PlacesOk n k seq) : EvI c (iComb (tCons (tCB rRng1 (tCons te tNil)) (tCons (tC (.int (k : Int))) tNil))) Γ true (seq.map fun ks => .d (plcD ks)) := fun H0 O H σ e R q =>
  h H0 O H σ e _ fun v H1 r s => by
    have ev := (Res.bo e s).int'
    subst ev
    refine ⟨(n : Int), rfl, fun p hp => ⟨p, n, k, seq, rfl, upd_same, hn, hk, ok, ?_⟩⟩
    have sm0 : Same H1 (upd H1 p (.rng 0 (n : Int))) := fun b o z => by rw [upd_ne (ne_of_none z hp)]; exact z
    have r2 : Rr c H (upd H1 p (.rng 0 (n : Int))) := r.tr (Rr.same sm0)
    refine q _ _ r2 ⟨(e.on r2).j, ?_⟩
    rw [List.length_map]
    refine walk_comb.mono (fun _ _ => trivial) fun i H' v H'' hi g w => ?_
    obtain ⟨T, o, ks, hks, rfl, ho, hT, rfl⟩ := w
    have sm : Same H' (upd H' T (.frz o (.tup (ks.map fun (i : Nat) => V.int i)))) := fun b o z => by rw [upd_ne (ne_of_none z hT)]; exact z
    refine ⟨sm, .d (plcD ks), by rw [List.getElem?_map, hks]; rfl, .leaf (.inl ⟨flatT _, .tup (.inl ⟨o, ho, upd_same⟩) ?_⟩)⟩
    have e1 : (ks.map fun (i : Nat) => V.int (i : Int)) = (ks.map fun (i : Nat) => (i : Int)).map V.int := by rw [List.map_map]; rfl
    rw [e1]
    exact BoAll.ofInts _
end
end Lm


/-! the places that combinations hands out -/
namespace Lm
open PySem PySem.Spec PyProof.Rows L2 CmbK
def cmbL : List Nat → Nat → List (List Nat)
  | _, 0 => [[]]
  | [], _ + 1 => []
  | a :: l, k + 1 => (cmbL l k).map (a :: ·) ++ cmbL l (k + 1)
def cmbs (n k : Nat) : List (List Nat) := cmbL (List.range n) k
def placesB (n k : Nat) (seq : List (List Nat)) : Bool :=
  seq.all (fun ks => ks.length == k && ks.all fun i => decide (i < n)) && (if n < k then seq.isEmpty else seq[0]? == some (List.range k)) && (List.range seq.length).all fun i => (seq[i]?.map (nxt n)) == some seq[i + 1]?
theorem places_of {n k : Nat} {seq : List (List Nat)} (h : placesB n k seq = true) : PlacesOk n k seq := by
  unfold placesB at h
  rw [Bool.and_eq_true, Bool.and_eq_true] at h
  obtain ⟨⟨h1, h2⟩, h3⟩ := h
  rw [List.all_eq_true] at h1 h3
  refine ⟨fun ks hk => ?_, ?_, fun i ks hi => ?_⟩
  · have := h1 ks hk
    rw [Bool.and_eq_true, beq_iff_eq, List.all_eq_true] at this
    exact ⟨this.1, fun i hi => of_decide_eq_true (this.2 i hi)⟩
  · by_cases q : n < k
    · rw [if_pos q] at h2
      exact .inl ⟨q, List.isEmpty_iff.mp h2⟩
    · rw [if_neg q, beq_iff_eq] at h2
      exact .inr ⟨q, h2⟩
  · have := h3 i (List.mem_range.mpr (List.getElem?_eq_some_iff.mp hi).1)
    rw [beq_iff_eq, hi, Option.map_some] at this
    exact Option.some.inj this
theorem places6 : ∀ n < 7, ∀ k < 8, placesB n k (cmbs n k) = true := by decide +kernel
theorem places20 : ∀ n < 21, placesB n 2 (cmbs n 2) = true := by decide +kernel
theorem cmb_ok {n k : Nat} (hn : n ≤ 6) (hk : k ≤ 7) : PlacesOk n k (cmbs n k) := places_of (places6 n (by omega) k (by omega))
theorem cmb_ok2 {n : Nat} (hn : n ≤ 20) : PlacesOk n 2 (cmbs n 2) := places_of (places20 n (by omega))
/-- the pairs, the first place first -/
def pairL (n : Nat) : List (List Nat) := (List.range n).flatMap fun i => (List.range (n - (i + 1))).map fun d => [i, i + 1 + d]
theorem cmb_pairs : ∀ n < 21, cmbs n 2 = pairL n := by decide +kernel
theorem mem_pairL {n : Nat} {ks : List Nat} : ks ∈ pairL n ↔ ∃ i j, ks = [i, j] ∧ i < j ∧ j < n := by
  unfold pairL
  simp only [List.mem_flatMap, List.mem_map, List.mem_range]
  constructor
  · rintro ⟨i, hi, d, hd, rfl⟩
    exact ⟨i, i + 1 + d, rfl, by omega, by omega⟩
  · rintro ⟨i, j, rfl, h1, h2⟩
    exact ⟨i, by omega, j - (i + 1), by omega, by congr; omega⟩
end Lm


/-! families of shares: the promises -/
namespace Lm
open PySem PySem.Spec PyProof.Rows L2
/-- a share of each variant but the control -/
structure Shr (r : List Int) (v : Int) : Prop where
  len : (r.length : Int) = v - 1
  nn : ∀ x ∈ r, 0 ≤ x
  sum : r.sum ≤ 10
theorem Shr.le {r : List Int} {v : Int} (h : Shr r v) : ∀ x ∈ r, x ≤ 10 := fun x hx => by
  have := le_sum h.nn x hx
  have := h.sum
  omega
end Lm


/-! faults of lists: the promises -/
namespace Lm
open PySem PySem.Spec PyProof.Rows L2
variable {L F : List (List Int)} {r s : List Int} {v b : Int}
theorem enumI_rows {L : List (List Int)} : enumI (L.map tupD) = (List.range L.length).map fun i => .t [.d (.int (i : Nat)), .d (tupD (L.getD i []))] := by
  apply List.ext_getElem
  · simp [enumI]
  · intro i h1 h2
    have h : i < L.length := by simpa using h2
    simp [enumI, List.getD_eq_getElem?_getD, h]
theorem drop_at {F : List (List Int)} {n : Nat} (h : n < F.length) : F.drop n = F.getD n [] :: F.drop (n + 1) := by
  rw [List.drop_eq_getElem_cons h, List.getD_eq_getElem?_getD, List.getElem?_eq_getElem h]
  rfl
end Lm


/-! the allowed shares of a family -/
namespace Lm
open PySem PySem.Spec PyProof.Rows L2
section
variable {X : Cx} {K : PySem.W.Frag} (hK : X.K = K)
include hK
end
theorem anyRows (l : List (List Int)) (g : List Int) : (l.map tupD).any (fun z => PyData.eqv z (tupD g)) = decide (g ∈ l) := by
  rw [Bool.eq_iff_iff, List.any_eq_true, decide_eq_true_iff]
  constructor
  · rintro ⟨z, hz, e⟩
    obtain ⟨r, hr, rfl⟩ := List.mem_map.mp hz
    rw [show PyData.eqv (tupD r) (tupD g) = decide (r = g) from eqvT r g, decide_eq_true_iff] at e
    rwa [e] at hr
  · intro hr
    exact ⟨tupD g, List.mem_map.mpr ⟨g, hr, rfl⟩, by rw [show PyData.eqv (tupD g) (tupD g) = decide (g = g) from eqvT g g]; simp⟩
end Lm


/-! == of plain data, forms of data, a drawn test behind a plain one -/
namespace Lm
open PySem PySem.Spec PyProof.Rows L2
mutual
/-- no truth values, no dicts: == is being equal -/
def plD : PyData → Bool
  | .none => true
  | .int _ => true
  | .str _ => true
  | .list ds => plAll ds
  | .tuple ds => plAll ds
  | _ => false
def plAll : List PyData → Bool
  | [] => true
  | d :: ds => plD d && plAll ds
end
theorem pl_mem {ds : List PyData} (h : ∀ d ∈ ds, plD d = true) : plAll ds = true := by
  induction ds with
  | nil => rfl
  | cons d ds ih =>
    show (plD d && plAll ds) = true
    rw [h d (by simp), ih fun e he => h e (by simp [he])]
    rfl
theorem pl_ints (ns : List Int) : plAll (ns.map PyData.int) = true := pl_mem fun d hd => by
  obtain ⟨n, _, rfl⟩ := List.mem_map.mp hd
  rfl
theorem pl_tup (ns : List Int) : plD (tupD ns) = true := pl_ints ns
mutual
theorem eqv_pl : ∀ {x y : PyData}, plD x = true → plD y = true → (PyData.eqv x y = true ↔ x = y)
  | .none, .none, _, _ => by simp [PyData.eqv]
  | .int i, .int j, _, _ => by simp [PyData.eqv]
  | .str i, .str j, _, _ => by simp [PyData.eqv]
  | .list xs, .list ys, h, g => by
    have := eqv_plA (xs := xs) (ys := ys) h g
    simp only [PyData.eqv, this, PyData.list.injEq]
  | .tuple xs, .tuple ys, h, g => by
    have := eqv_plA (xs := xs) (ys := ys) h g
    simp only [PyData.eqv, this, PyData.tuple.injEq]
  | .none, .int _, _, _ | .none, .str _, _, _ | .none, .list _, _, _ | .none, .tuple _, _, _ => by simp [PyData.eqv]
  | .int _, .none, _, _ | .int _, .str _, _, _ | .int _, .list _, _, _ | .int _, .tuple _, _, _ => by simp [PyData.eqv]
  | .str _, .none, _, _ | .str _, .int _, _, _ | .str _, .list _, _, _ | .str _, .tuple _, _, _ => by simp [PyData.eqv]
  | .list _, .none, _, _ | .list _, .int _, _, _ | .list _, .str _, _, _ | .list _, .tuple _, _, _ => by simp [PyData.eqv]
  | .tuple _, .none, _, _ | .tuple _, .int _, _, _ | .tuple _, .str _, _, _ | .tuple _, .list _, _, _ => by simp [PyData.eqv]
  | .bool _, _, h, _ | .dict _, _, h, _ => by simp [plD] at h
  | .none, .bool _, _, g | .none, .dict _, _, g | .int _, .bool _, _, g | .int _, .dict _, _, g | .str _, .bool _, _, g | .str _, .dict _, _, g | .list _, .bool _, _, g | .list _, .dict _, _, g | .tuple _, .bool _, _, g | .tuple _, .dict _, _, g => by simp [plD] at g
theorem eqv_plA : ∀ {xs ys : List PyData}, plAll xs = true → plAll ys = true → (PyData.eqvAll xs ys = true ↔ xs = ys)
  | [], [], _, _ => by simp [PyData.eqvAll]
  | [], _ :: _, _, _ => by simp [PyData.eqvAll]
  | _ :: _, [], _, _ => by simp [PyData.eqvAll]
  | x :: xs, y :: ys, h, g => by
    have h' : (plD x && plAll xs) = true := h
    have g' : (plD y && plAll ys) = true := g
    rw [Bool.and_eq_true] at h' g'
    have e1 := eqv_pl (x := x) (y := y) h'.1 g'.1
    have e2 := eqv_plA (xs := xs) (ys := ys) h'.2 g'.2
    simp only [PyData.eqvAll, Bool.and_eq_true, e1, e2, List.cons.injEq]
end
theorem eqv_rf {x : PyData} (h : plD x = true) : PyData.eqv x x = true := (eqv_pl h h).mpr rfl
/-- data of a depth of at most n, all of it to be compared -/
def Sh (n : Nat) (d : PyData) : Prop := d.canLay0 = true ∧ d.depth ≤ n
theorem Sh.ok {n : Nat} {d : PyData} (h : Sh n d) (hn : n ≤ 64) : SeqAt.shaped d = true := by
  unfold SeqAt.shaped
  rw [h.1, decide_eq_true (by have := h.2; omega)]
  rfl
theorem sh_non : Sh n .none := ⟨rfl, by simp [PyData.depth]⟩
theorem sh_int {i : Int} : Sh n (.int i) := ⟨rfl, by simp [PyData.depth]⟩
theorem sh_all {n : Nat} : ∀ {ds : List PyData}, (∀ d ∈ ds, Sh n d) → PyData.canLayAll0 ds = true ∧ PyData.depthAll ds ≤ n
  | [], _ => ⟨rfl, by simp [PyData.depthAll]⟩
  | d :: ds, h => by
    have a := h d (by simp)
    have b := sh_all (ds := ds) fun e he => h e (List.mem_cons_of_mem _ he)
    refine ⟨?_, ?_⟩
    · show (d.canLay0 && PyData.canLayAll0 ds) = true
      rw [a.1, b.1]; rfl
    · show max d.depth (PyData.depthAll ds) ≤ n
      have := a.2; have := b.2; omega
theorem sh_tup {n : Nat} {ds : List PyData} (h : ∀ d ∈ ds, Sh n d) : Sh (n + 1) (.tuple ds) := by
  have := sh_all h
  exact ⟨this.1, by show PyData.depthAll ds + 1 ≤ _; omega⟩
theorem Sh.up {n m : Nat} {d : PyData} (h : Sh n d) (hn : n ≤ m) : Sh m d := ⟨h.1, Nat.le_trans h.2 hn⟩
theorem sh_ints {n : Nat} (ns : List Int) : Sh (n + 1) (tupD ns) := sh_tup fun d hd => by
  obtain ⟨i, _, rfl⟩ := List.mem_map.mp hd
  exact sh_int
theorem sh_rows {n : Nat} (l : List (List Int)) : ∀ d ∈ l.map tupD, Sh (n + 1) d := fun d hd => by
  obtain ⟨i, _, rfl⟩ := List.mem_map.mp hd
  exact sh_ints i
section
variable {c : Ct} {Γ : List (Option Rs)} {ta tb : TE} {tt tu : TT} {ka kb : Kd} {d e : PyData} {a : Bool}
end
end Lm


/-! len(set(rows)): rows of ints, in a tuple or in a list -/
namespace Lm
open PySem PySem.Spec PyProof.Rows L2
section
variable {prog : Program} {w : World} {A : Around} {E : Value → Shared → Prop} {s : Shared}
/-- a new set -/
abbrev nwS (w : World) : Obj := { cls := .type "set", dict := none, data := .set #[] 0 (.fresh 0 0 (!w.params.followText "set-order")) }
abbrev nwH (w : World) (h : Heap) : Heap := h.push (nwS w)
theorem setOfRows {l : Addr} {items : Array Value} (ks : List (Addr × List Int)) {Q : Value → Shared → Prop} (hh : A.handled = none) (hl : s.heap.IsTuple l items) (hit : items.toList = ks.map fun p => Value.ref p.1)
    (hk : ∀ p ∈ ks, IsT prog w s.heap p.2 p.1) (hfew : ks.length < 64) (hu : A.units + 3 < cLine)
    (h : ∀ (g : Heap) (tk : Nat) L es ep t, SetTR prog w g s.heap.objs.size L es ep t → Got ks ks.length L → (∀ b o, s.heap.get? b = some o → g.get? b = some o) → Q (.ref s.heap.objs.size) { s with heap := g, toks := tk }) :
    wpAny (model prog w) A (call (.type "set") [.ref l]) Q E s := by
  have sz : items.size = ks.length := by rw [← Array.length_toList, hit, List.length_map]
  obtain ⟨_, _, hmro⟩ := F.called_set.mro; have hmade := F.called_set.made; have hsub := F.called_set.sub
  refine wpAny_call (codeAny_of_tree ?_); show wpAny _ _ (callAny (.type "set") _) _ _ _; refine wpAny_pure ⟨Code.quiet_builtin _ (by decide +kernel), codeAny_builtin F.entry_type_call ?_⟩
  rw [Around.under_plain (weight_type_call_type "set" [Value.ref l] []) rfl]
  have h1 := F.called_set.notType; have h2 := F.called_set.canCreate; have hct := F.typeCall_set_1 (.ref l)
  repeat (any_goals (first | (assumption) | wp_step))
  refine codeAny_mono (code_set_led1 (.ref l) (E := E) (Q₁ := fun ob t => ob = .ref s.heap.objs.size ∧ t = { s with heap := nwH w s.heap }) ⟨rfl, rfl⟩) fun r s1 hr => ?_
  cases r with
  | error e => exact hr
  | ok fl =>
    cases fl with
    | ret obj =>
      obtain ⟨rfl, rfl⟩ := hr
      have hS : (nwH w s.heap).get? s.heap.objs.size = some (nwS w) := Heap.get?_push_size _ rfl
      have hT : Shared.TypeIs { s with heap := nwH w s.heap } (.ref s.heap.objs.size) "set" := ⟨_, hS, rfl⟩
      have hli := F.called_set.init.lookup; have hbi := F.called_set.init.bind (.ref s.heap.objs.size)
      repeat (any_goals (first | (assumption) | wp_step))
      refine codeAny_mono (codeAny_call_builtin (R := wants (fun r t2 => r = .none ∧ ∃ g tk L es ep t, t2 = { s with heap := g, toks := tk } ∧ SetTR prog w g s.heap.objs.size L es ep t ∧ Got ks ks.length L ∧ (∀ b o, s.heap.get? b = some o → g.get? b = some o)) E)
        F.called_set.init.plain F.entry_set_init (check_set_init_1 hT ?_)) fun r2 t2 hr2 => ?_
      · obtain ⟨⟨oc, od, odt, osl⟩, hol, hcl, nl, hdl⟩ := hl
        simp only at hcl hdl; subst hcl; subst hdl
        have hol' : (nwH w s.heap).get? l = some { cls := .type "tuple", dict := od, data := .seq items nl, slots := osl } := Heap.get?_push_of_some _ hol
        have hsls := F.sub_tuple_set; have hslf := F.sub_tuple_frozenset; have hne : (Value.type "tuple" == Value.type "dict") = false := by decide
        have hl1 : (nwH w s.heap).IsTuple l items := ⟨_, hol', rfl, nl, rfl⟩
        unfold Builtin.«set.__init__» noKeywords; unfold Builtin.Frozenset.updateFrom
        generalize hPI : pyIter = PI; wp_walk; subst hPI
        refine wpAny_pyIter_tuple hl1 ?_; refine wpAny_bind (wpAny_runValue ?_)
        have lS : l < s.heap.objs.size := Heap.lt_size hol
        have hh3 : A.in1.in1.in1.handled = none := by simp [hh]
        have z1 : (nwH w s.heap).objs.size = s.heap.objs.size + 1 := Heap.size_push _ _
        have neI : l ≠ (nwH w s.heap).objs.size := by rw [z1]; exact Nat.ne_of_lt (Nat.lt_succ_of_lt lS)
        have sf : s.heap.objs.size ∉ [(nwH w s.heap).objs.size, l] := by
          rw [z1]; simp only [List.mem_cons, List.not_mem_nil, or_false, not_or]
          exact ⟨Nat.ne_of_lt (Nat.lt_succ_self _), Nat.ne_of_gt lS⟩
        have hval : ∀ (i : Nat) (v : Value), items[i]? = some v → ∃ p, ks[i]? = some p ∧ v = .ref p.1 := by
          intro i v hv
          have q : items.toList[i]? = some v := by simpa using hv
          rw [hit, List.getElem?_map] at q
          cases hq : ks[i]? with
          | none => rw [hq] at q; cases q
          | some p => rw [hq] at q; exact ⟨p, rfl, (Option.some.inj q).symm⟩
        have nof : ∀ b, s.heap.objs.size ≤ b → s.heap.get? b = none := by
          intro b hb
          cases q : s.heap.get? b with
          | none => rfl
          | some o => exact (Nat.lt_irrefl _ (Nat.lt_of_lt_of_le (Heap.lt_size q) hb)).elim
        refine set_update_tups ((Walks.tuple hh3 _ l neI items).toS) s.heap.objs.size sf ks sz hfew hval s.heap hk (nof _ (Nat.le_refl _))
          (fun b hb => nof b (by rw [List.mem_singleton.mp hb, z1]; exact Nat.le_succ _)) hu (items.size - 0) 0 _ (by omega) (Nat.zero_le _)
          ⟨⟨_, Heap.get?_push_size _ rfl, rfl, rfl⟩, (hl1.push _)⟩ (fun b o e => Heap.get?_push_of_some _ (Heap.get?_push_of_some _ e)) ?hA ?hB
        case hA =>
          have hget : ((nwH w s.heap).push { cls := .type "tuple_iterator", data := .fields #[.ref l, .int 0 0] }).get? s.heap.objs.size = some (nwS w) := Heap.get?_push_of_some _ hS
          exact ⟨[], #[], 0, _, setTR_fresh hget, Got.zero ks⟩
        case hB =>
          intro s3 L es ep t hm hS3 g3 hkp
          obtain ⟨h3, g2, d3, tk3, os3⟩ := s3
          have eg : g2 = s.gens := hm.gens; have ed : d3 = s.drawn := hm.drawn; have eo : os3 = s.os := hm.os
          subst eg ed eo
          show wpAny _ _ _ _ _ _; refine wpAny_pure ?_; show wpAny _ _ (ret Value.none) _ _ _
          rw [sz] at g3
          exact wpAny_pure ⟨rfl, h3, tk3, L, es, ep, t, rfl, hS3, g3, hkp⟩
      · cases r2 with
        | error e => exact hr2
        | ok fl2 =>
          cases fl2 with
          | ret r =>
            obtain ⟨rfl, g, tk, L, es, ep, t, rfl, hS2, g2, hk2⟩ := hr2
            repeat (any_goals (first | (assumption) | wp_step))
            exact h g tk L es ep t hS2 g2 hk2
          | _ => exact hr2.elim
    | _ => exact hr.elim
end
section
variable {X : Cx}
/-- each row once -/
def ddR : List (List Int) → List (List Int)
  | [] => []
  | r :: l => if r ∈ l then ddR l else r :: ddR l
theorem mem_ddR {m : List Int} : ∀ {l : List (List Int)}, m ∈ ddR l ↔ m ∈ l
  | [] => by simp [ddR]
  | n :: l => by
    unfold ddR
    split
    · rename_i h
      rw [mem_ddR, List.mem_cons]
      exact ⟨.inr, fun w => w.elim (fun z => z ▸ h) id⟩
    · rw [List.mem_cons, List.mem_cons, mem_ddR]
theorem nd_ddR : ∀ {l : List (List Int)}, (ddR l).Nodup
  | [] => List.nodup_nil
  | n :: l => by
    unfold ddR
    split
    · exact nd_ddR
    · rename_i h
      exact List.nodup_cons.mpr ⟨fun w => h (mem_ddR.mp w), nd_ddR⟩
theorem ddR_le : ∀ {l : List (List Int)}, (ddR l).length ≤ l.length
  | [] => Nat.le_refl _
  | n :: l => by
    have := ddR_le (l := l)
    unfold ddR
    split <;> simp only [List.length_cons] <;> omega
theorem ddR_iff : ∀ {l : List (List Int)}, (ddR l).length = l.length ↔ l.Nodup
  | [] => by simp [ddR]
  | n :: l => by
    have h1 := ddR_le (l := l)
    have ih := ddR_iff (l := l)
    unfold ddR
    split
    · rename_i h
      constructor
      · intro e; simp only [List.length_cons] at e; omega
      · intro e; exact absurd h (List.nodup_cons.mp e).1
    · rename_i h
      rw [List.nodup_cons, List.length_cons, List.length_cons, ← ih]
      constructor
      · intro e; exact ⟨h, by omega⟩
      · rintro ⟨_, e⟩; omega
theorem len_sub {α : Type} [DecidableEq α] : ∀ {as bs : List α}, as.Nodup → (∀ k, k ∈ as → k ∈ bs) → as.length ≤ bs.length
  | [], _, _, _ => Nat.zero_le _
  | a :: as, bs, ha, h => by
    have hm : a ∈ bs := h a (by simp)
    obtain ⟨hna, hnd⟩ := List.nodup_cons.mp ha
    have := len_sub (bs := bs.erase a) hnd fun k q => (List.mem_erase_of_ne fun (z : k = a) => hna (by rw [← z]; exact q)).mpr (h k (by simp [q]))
    rw [List.length_erase_of_mem hm] at this
    have : 0 < bs.length := List.length_pos_of_mem hm
    simp only [List.length_cons]
    omega
theorem got_len {ks L : List (Addr × List Int)} (nd : (L.map (·.2)).Nodup) (g : Got ks ks.length L) : (L.map (·.2)).length = (ddR (ks.map (·.2))).length := by
  have t : ks.take ks.length = ks := List.take_length
  refine Nat.le_antisymm (len_sub nd fun r hr => mem_ddR.mpr ?_) (len_sub nd_ddR fun r hr => ?_)
  · obtain ⟨p, hp, rfl⟩ := List.mem_map.mp hr
    have := g.sub p hp
    rw [t] at this
    exact List.mem_map_of_mem this
  · obtain ⟨p, hp, rfl⟩ := List.mem_map.mp (mem_ddR.mp hr)
    exact g.all p (by rw [t]; exact hp)
/-- how many different rows -/
def tLenSetR (K : PySem.W.Frag) (ta : TE) : TE := fun σ H Q => ta σ H fun x H1 => ∃ (l : Addr) (ks : List (Addr × List Int)), x = .ref l ∧ (SqT K H1 l (ks.map fun p => V.ref p.1) ∨ SqL K H1 l (ks.map fun p => V.ref p.1)) ∧ (∀ p ∈ ks, SqT K H1 p.1 (p.2.map V.int)) ∧ ks.length < 64 ∧ Q (.int ((ddR (ks.map (·.2))).length : Nat)) H1
theorem pe_lenSetR {a : Expr} {ta : TE} {p p2 q pos : Pos} (hg : Gl X "len") (hm : X.mg "len" = none) (hg2 : Gl X "set") (hm2 : X.mg "set" = none) (ha : PE X a ta) (hu : X.A.units + 65 < cLine) (hc : X.calm = true := by rfl)
    (na : starEach [a] X.env = (false, eval a X.env) :: starEach [] X.env := by rfl) : PE X (.Call (.Name "len" p) [.Call (.Name "set" p2) [a] [] q] [] pos) (tLenSetR X.K ta) := by
  refine ⟨fun pins s σ H Q I h => ?_⟩
  refine Call_ (ld_blt I hg hm boot_len (PyProof.Rows.callWith_builtin1 (PyProof.Rows.args_cons ?_ rfl) rfl rfl))
  refine Call_ (ld_blt I hg2 hm2 boot_set ?_)
  refine PyProof.Rows.callWith_type1 (PyProof.Rows.args_cons (thn (ha.run pins s σ H _ I h) fun v s1 ⟨x, H1, I1, r1, q1⟩ => PyProof.Rows.args_nil ?_) na) na rfl
  obtain ⟨l, ks, rfl, hq, hks, hl, q1⟩ := q1
  cases r1
  rcases hq with hq | hq
  · obtain ⟨its, r, pl, hz⟩ := I1.tuple hq
    refine setOfRows ks (I1.ok.hd hc) (show s1.heap.IsTuple l its.toArray from pl) (by simpa using refs_of_vals r) (fun p hp => I1.isT (hks p hp)) hl (Nat.lt_of_le_of_lt (Nat.add_le_add_left (by decide) _) hu) fun g tk L es ep t hS hG hk => ?_
    refine PyProof.Rows.args_nil ?_
    obtain ⟨o, ho, hex, hd⟩ := hS.ob
    have sz2 := hS.size (s := { s1 with heap := g, toks := tk })
    have I2 : Inv X pins σ H1 { s1 with heap := g, toks := tk } := I1.kept fun b o e => hk b o e
    have eL : es.size = (ddR (ks.map (·.2))).length := by rw [sz2, ← got_len hS.nd hG, List.length_map]
    have lt := hS.few
    exact call_len_set ho hex hd (hS.fits (s := { s1 with heap := g, toks := tk })) (by rw [sz2]; omega) ⟨.int _, H1, I2.tok _, ⟨_, by rw [eL]⟩, q1⟩
  · obtain ⟨its, r, pl, hz⟩ := I1.list hq
    refine call_set_tups (P := X.prog) (w := X.w) ks (I1.ok.hd hc) pl.isList (by simpa using refs_of_vals r) (fun p hp => I1.isT (hks p hp)) hl (Nat.lt_of_le_of_lt (Nat.add_le_add_left (by decide) _) hu) fun g tk L es ep t hS hG hk => ?_
    refine PyProof.Rows.args_nil ?_
    obtain ⟨o, ho, hex, hd⟩ := hS.ob
    have sz2 := hS.size (s := { s1 with heap := g, toks := tk })
    have I2 : Inv X pins σ H1 { s1 with heap := g, toks := tk } := I1.kept fun b o e => hk b o e
    have eL : es.size = (ddR (ks.map (·.2))).length := by rw [sz2, ← got_len hS.nd hG, List.length_map]
    have lt := hS.few
    exact call_len_set ho hex hd (hS.fits (s := { s1 with heap := g, toks := tk })) (by rw [sz2]; omega) ⟨.int _, H1, I2.tok _, ⟨_, by rw [eL]⟩, q1⟩
section
variable {K : PySem.W.Frag} (hK : X.K = K)
include hK
theorem k_lenSetR {a : Expr} {ta : TE} {p p2 q pos : Pos} (hg : Gl X "len") (hm : X.mg "len" = none) (hg2 : Gl X "set") (hm2 : X.mg "set" = none) (ha : PE X a ta) (hu : X.A.units + 65 < cLine) (hc : X.calm = true := by rfl)
    (na : starEach [a] X.env = (false, eval a X.env) :: starEach [] X.env := by rfl) : PE X (.Call (.Name "len" p) [.Call (.Name "set" p2) [a] [] q] [] pos) (tLenSetR K ta) := hK ▸ pe_lenSetR hg hm hg2 hm2 ha hu hc na
end
end
section
variable {c : Ct} {H : Hp} {Γ : List (Option Rs)} {ta : TE} {ka : Kd}
theorem BoAll.rows : ∀ {A : List (List Int)} {xs : List V}, BoAll c H xs (A.map tupD) → ∃ ks : List (Addr × List Int), xs = ks.map (fun p => V.ref p.1) ∧ ks.map (·.2) = A ∧ ∀ p ∈ ks, SqT c.K H p.1 (p.2.map V.int)
  | [], _, .nil => ⟨[], rfl, rfl, by simp⟩
  | r :: A, _, .cons a b => by
    obtain ⟨p, ys, rfl, tp, al⟩ := (show Bo c H _ (.tuple (r.map .int)) from a).tup'
    have := al.ints
    subst this
    obtain ⟨ks, rfl, rfl, h⟩ := BoAll.rows b
    refine ⟨(p, r) :: ks, rfl, rfl, fun q hq => ?_⟩
    rcases List.mem_cons.mp hq with w | w
    · rw [w]; exact tp.sq
    · exact h q w
theorem e_lenSetL {A : List (List Int)} (h : Ev c ta Γ ka (.list (A.map tupD))) (hl : A.length < 64) : Ev c (tLenSetR c.K ta) Γ .v (.int ((ddR A).length : Nat)) := fun H0 O H σ e Q q =>
  h H0 O H σ e _ fun v H1 r1 s1 => by
    obtain ⟨p, xs, rfl, _, s, al⟩ := (Res.bo e s1).lst'
    obtain ⟨ks, rfl, rfl, hk⟩ := al.rows
    exact ⟨p, ks, rfl, .inr s, hk, by simpa using hl, q _ H1 r1 (.int _)⟩
end
end Lm


/-! in and not in over tuples or lists of data -/
namespace Lm
open PySem PySem.Spec PyProof.Rows L2
def rInU (K : PySem.W.Frag) (neg : Bool) : R2 := fun x y H Q => ∃ d ds, Dp K H x d ∧ (Dp K H y (.list ds) ∨ Dp K H y (.tuple ds)) ∧ SeqAt.shaped d = true ∧ SeqAt.shaped (.tuple ds) = true ∧ Q (.bl (if neg then !(ds.any fun z => PyData.eqv z d) else ds.any fun z => PyData.eqv z d)) H
section
variable {X : Cx}
theorem op_notInU (hu : X.A.units + 65 < cLine) : OpR X (compareOp .NotIn) (rInU X.K true) := by
  intro pins s σ H x y v u Q I rx ry h
  obtain ⟨d, ds, hd, he, sd, se, q⟩ := h
  obtain ⟨as, r1⟩ := Dp.reads I d x v hd rx
  rcases he with he | he
  · obtain ⟨bs, r2⟩ := Dp.reads I (.list ds) y u he ry
    exact SeqAt.notIn_list_reads r2 r1 (SeqAt.canLay_of_shaped se) (SeqAt.canLay_of_shaped sd) (room_in_shaped sd hu) ⟨.bl _, H, I, rfl, q⟩
  · obtain ⟨bs, r2⟩ := Dp.reads I (.tuple ds) y u he ry
    exact SeqAt.notIn_tuple_reads r2 r1 (SeqAt.canLay_of_shaped se) (SeqAt.canLay_of_shaped sd) (room_in_shaped sd hu) ⟨.bl _, H, I, rfl, q⟩
variable {K : PySem.W.Frag} (hK : X.K = K)
include hK
theorem k_notInU (hu : X.A.units + 65 < cLine) : OpR X (compareOp .NotIn) (rInU K true) := hK ▸ op_notInU hu
end
section
variable {c : Ct} {Γ : List (Option Rs)} {ta tb : TE} {ka kb : Kd} {d : PyData} {ds : List PyData} {r : List Int} {P : List (List Int)} {neg : Bool}
theorem e_inUL (ha : Ev c ta Γ ka d) (hb : Ev c tb Γ kb (.list ds)) (sd : SeqAt.shaped d = true) (sl : SeqAt.shaped (.tuple ds) = true) : Ev c (tOp (rInU c.K neg) ta tb) Γ .v (.bool (if neg then !(ds.any fun z => PyData.eqv z d) else ds.any fun z => PyData.eqv z d)) :=
  d_bin ha hb fun H O v u Q bv bu q => ⟨d, ds, bv.dp, .inl bu.dp, sd, sl, q _ H Rr.rf (.bl _)⟩
theorem shapedTR (l : List (List Int)) : SeqAt.shaped (.tuple (l.map tupD)) = true := (sh_tup (n := 1) (sh_rows l)).ok (by decide)
theorem e_ninRL (ha : Ev c ta Γ ka (tupD r)) (hb : Ev c tb Γ kb (.list (P.map tupD))) : Ev c (tOp (rInU c.K true) ta tb) Γ .v (.bool (!decide (r ∈ P))) := (e_inUL ha hb (shapedT r) (shapedTR P)).to (by rw [if_pos rfl, anyRows])
end
section
variable {c : Ct} {Γ : List (Option Rs)} {tr : TA} {kv : Bool} {n m lo : Nat} {a : Im}
theorem i_rngN (h : EvA c tr Γ kv [.int (n : Int)]) (hn : n ≤ 1000000) : EvI c (iRng1 tr) Γ true ((List.range n).map fun (i : Nat) => Im.d (.int (i : Int))) := by
  have := i_rng1 h (by omega) (by omega)
  rw [Int.toNat_natCast] at this
  unfold upI at this
  rw [List.map_map] at this
  refine (congrArg (EvI c (iRng1 tr) Γ true) (List.map_congr_left fun i _ => ?_)).mp this
  show Im.d (.int (0 + (i : Int))) = _
  rw [Int.zero_add]
theorem rngN_at (h : ((List.range n).map fun (i : Nat) => Im.d (.int (i : Int)))[m]? = some a) : m < n ∧ a = .d (.int (m : Int)) := by
  rw [List.getElem?_map] at h
  cases q : (List.range n)[m]? with
  | none => rw [q] at h; cases h
  | some k =>
    rw [q] at h
    have hm := (List.getElem?_eq_some_iff.mp q).1
    rw [List.length_range] at hm
    rw [List.getElem?_range hm] at q
    cases Option.some.inj q
    exact ⟨hm, (Option.some.inj h).symm⟩
theorem i_rngN2 (h : EvA c tr Γ kv [.int (lo : Int), .int (n : Int)]) (hn : n ≤ 1000000) (hl : lo ≤ 1000000) : EvI c (iRng2 tr) Γ true ((List.range (n - lo)).map fun (i : Nat) => Im.d (.int ((lo + i : Nat) : Int))) := by
  have := i_rng2 h (by omega) (by omega) (by omega) (by omega)
  rw [show ((n : Int) - (lo : Int)).toNat = n - lo by omega] at this
  unfold upI at this
  rw [List.map_map] at this
  refine (congrArg (EvI c (iRng2 tr) Γ true) (List.map_congr_left fun i _ => ?_)).mp this
  show Im.d (.int ((lo : Int) + (i : Int))) = _
  rw [Int.natCast_add]
end
/-! ### plans -/
/-- the pairs whose first place is below n -/
def prF (m n : Nat) : List (List Int) := (List.range n).flatMap fun i => (List.range (m - (i + 1))).map fun d => [(i : Int), ((i + 1 + d : Nat) : Int)]
/-- all pairs below n -/
def prL (n : Nat) : List (List Int) := prF n n
/-! bad triples -/
def castL (ks : List Nat) : List Int := ks.map fun (i : Nat) => (i : Int)
end Lm


/-! rules: the mathematics -/
namespace Lm
open PySem PySem.Spec PyProof.Rows L2
abbrev Pr := List Int × List Int
abbrev rlD (p : Pr) : PyData := .tuple [tupD p.1, tupD p.2]
abbrev lstD (r : List Int) : PyData := .list (r.map .int)
/-- an allocation and an assignment of it -/
structure OkP (p : Pr) (v b : Int) : Prop where
  alc : Alc p.1 v b
  len : (p.2.length : Int) = b
  rng : ∀ x ∈ p.2, 0 ≤ x ∧ x < v
  cnt : countsI p.2 v = p.1
structure Rul (R : List Pr) (v b : Int) : Prop where
  v1 : 1 ≤ v
  v5 : v ≤ 5
  b0 : 0 ≤ b
  b20 : b ≤ 20
  len : R.length ≤ 20
  ok : ∀ p ∈ R, OkP p v b
  nd : (R.map (·.1)).Nodup
theorem OkP.asg {p : Pr} {v b : Int} (h : OkP p v b) (hb : b ≤ 20) : Asg p.2 v := ⟨by have := h.len; omega, h.rng⟩
def gR (R : List Pr) (i : Nat) : Pr := R.getD i ([], [])
theorem gR_mem {R : List Pr} {i : Nat} (h : i < R.length) : gR R i ∈ R := by
  unfold gR
  rw [List.getD_eq_getElem?_getD, List.getElem?_eq_getElem h]
  exact List.getElem_mem h
/-- a bucket leaves needlessly -/
def leftB (p q : Pr) (i : Nat) : Bool := !decide (p.2.getD i 0 = 0) && (!decide (q.2.getD i 0 = p.2.getD i 0) && decide (p.1.getD (p.2.getD i 0).toNat 0 ≤ q.1.getD (p.2.getD i 0).toNat 0))
/-! the first of three places -/
theorem find_flat {α : Type} {p : α → Bool} {g : Nat → List α} {a : α} : ∀ {n i : Nat}, i < n → (∀ i' < i, (g i').find? p = none) → (g i).find? p = some a → ((List.range n).flatMap g).find? p = some a := by
  intro n i hi h1 h2
  obtain ⟨m, rfl⟩ : ∃ m, n = i + 1 + m := ⟨n - (i + 1), by omega⟩
  have e0 : ((List.range i).flatMap g).find? p = none := by
    rw [List.find?_eq_none]
    intro x hx
    obtain ⟨i', hi', hx'⟩ := List.mem_flatMap.mp hx
    exact List.find?_eq_none.mp (h1 i' (List.mem_range.mp hi')) x hx'
  rw [List.range_add, List.range_succ, List.flatMap_append, List.flatMap_append, List.find?_append, List.find?_append, e0, List.flatMap_singleton, h2]
  rfl
theorem find_flat0 {α : Type} {p : α → Bool} {g : Nat → List α} {n : Nat} (h : ∀ i < n, (g i).find? p = none) : ((List.range n).flatMap g).find? p = none := by
  rw [List.find?_eq_none]
  intro x hx
  obtain ⟨i', hi', hx'⟩ := List.mem_flatMap.mp hx
  exact List.find?_eq_none.mp (h i' (List.mem_range.mp hi')) x hx'
theorem find_map {α : Type} {p : α → Bool} {f : Nat → α} {n i : Nat} (hi : i < n) (h1 : ∀ i' < i, p (f i') = false) (h2 : p (f i) = true) : ((List.range n).map f).find? p = some (f i) := by
  have e : (List.range n).map f = (List.range n).flatMap fun i => [f i] := List.map_eq_flatMap
  rw [e]
  exact find_flat hi (fun i' hi' => by simp [h1 i' hi']) (by simp [h2])
theorem find_map0 {α : Type} {p : α → Bool} {f : Nat → α} {n : Nat} (h : ∀ i < n, p (f i) = false) : ((List.range n).map f).find? p = none := by
  rw [List.find?_eq_none]
  intro x hx
  obtain ⟨i, hi, rfl⟩ := List.mem_map.mp hx
  rw [h i (List.mem_range.mp hi)]
  decide
def triN (n b : Nat) : List (Nat × Nat × Nat) := (List.range n).flatMap fun i => (List.range n).flatMap fun j => (List.range b).map fun k => (i, j, k)
def lftP (R : List Pr) (t : Nat × Nat × Nat) : Bool := leftB (gR R t.1) (gR R t.2.1) t.2.2
def leftF (R : List Pr) (b : Nat) : PyData := match (triN R.length b).find? (lftP R) with
  | none => .none
  | some t => tupD [(t.1 : Int), (t.2.1 : Int), (t.2.2 : Int)]
theorem left_here {R : List Pr} {b i j k : Nat} (hi : i < R.length) (hj : j < R.length) (hk : k < b)
    (h1 : ∀ i' < i, ∀ j' < R.length, ∀ k' < b, leftB (gR R i') (gR R j') k' = false) (h2 : ∀ j' < j, ∀ k' < b, leftB (gR R i) (gR R j') k' = false) (h3 : ∀ k' < k, leftB (gR R i) (gR R j) k' = false)
    (h : leftB (gR R i) (gR R j) k = true) : leftF R b = tupD [(i : Int), (j : Int), (k : Int)] := by
  have e : (triN R.length b).find? (lftP R) = some (i, j, k) := by
    unfold triN
    exact find_flat hi (fun i' hi' => find_flat0 fun j' hj' => find_map0 fun k' hk' => h1 i' hi' j' hj' k' hk') (find_flat hj (fun j' hj' => find_map0 fun k' hk' => h2 j' hj' k' hk') (find_map (f := fun k => (i, j, k)) hk h3 h))
  unfold leftF
  rw [e]
theorem left_none {R : List Pr} {b : Nat} : leftF R b = .none ↔ ∀ i < R.length, ∀ j < R.length, ∀ k < b, leftB (gR R i) (gR R j) k = false := by
  unfold leftF
  constructor
  · intro h i hi j hj k hk
    cases q : (triN R.length b).find? (lftP R) with
    | some t => rw [q] at h; cases h
    | none =>
      have m : (i, j, k) ∈ triN R.length b := by
        unfold triN
        exact List.mem_flatMap.mpr ⟨i, List.mem_range.mpr hi, List.mem_flatMap.mpr ⟨j, List.mem_range.mpr hj, List.mem_map.mpr ⟨k, List.mem_range.mpr hk, rfl⟩⟩⟩
      have := List.find?_eq_none.mp q _ m
      simpa [lftP] using this
  · intro h
    have : (triN R.length b).find? (lftP R) = none := by
      unfold triN
      exact find_flat0 fun i hi => find_flat0 fun j hj => find_map0 fun k hk => h i hi j hj k hk
    rw [this]
theorem flat_left {R : List Pr} {b : Nat} : flatD (leftF R b) = true := by
  unfold leftF
  split
  · rfl
  · exact flatT _
/-! lists give the variants their buckets -/
theorem getD_setI {r : List Int} {i j : Nat} {x : Int} (hi : i < r.length) : (r.set i x).getD j 0 = if i = j then x else r.getD j 0 := by
  simp only [List.getD_eq_getElem?_getD, List.getElem?_set]
  split
  · rename_i h
    subst h
    simp [hi]
  · rfl
theorem gL_mem {Ls : List (List Int)} {i : Nat} (h : i < Ls.length) : Ls.getD i [] ∈ Ls := by
  rw [List.getD_eq_getElem?_getD, List.getElem?_eq_getElem h]
  exact List.getElem_mem h
end Lm


/-! rules: the promises -/
namespace Lm
open PySem PySem.Spec PyProof.Rows L2
def opD : Option (List Int) → PyData
  | none => .none
  | some f => tupD f
theorem flat_op : ∀ {o : Option (List Int)}, flatD (opD o) = true
  | none => rfl
  | some f => flatT f
theorem fl_prR (R : List Pr) : flatAll (R.map rlD) = true := flatAll_mem fun d hd => by
  obtain ⟨p, _, rfl⟩ := List.mem_map.mp hd
  simp [flatD, flatAll, flatAll_ints]
theorem fl_pr (p : Pr) : flatD (rlD p) = true := by simp [flatD, flatAll, flatAll_ints]
theorem at_pr {R : List Pr} {j : Nat} (h : j < R.length) : atI (R.map rlD) (j : Int) = some (rlD (gR R j)) := atI_nat (by simp [gR, List.getD_eq_getElem?_getD, h])
def rlI (p : Pr) : Im := .d (rlD p)
section
variable {c : Ct} {Γ : List (Option Rs)} {tl : TE} {k : Kd} {R : List Pr} {tr : TA}
theorem i_prs (h : Ev c tl Γ k (.tuple (R.map rlD))) (hk : k ≠ .b) : EvI c (iSeq c.K tl) Γ true (R.map rlI) := by
  have := i_seqT h hk
  rwa [List.map_map] at this
theorem i_enumP (h : EvA c tr Γ true [.tuple (R.map rlD)]) : EvI c (iEnumA c.K tr) Γ true ((List.range R.length).map fun i => .t [.d (.int (i : Nat)), .d (rlD (gR R i))]) := by
  have e : enumI (R.map rlD) = (List.range R.length).map fun i => Im.t [.d (.int (i : Nat)), .d (rlD (gR R i))] := by
    apply List.ext_getElem
    · simp [enumI]
    · intro i h1 h2
      have h : i < R.length := by simpa using h2
      simp [enumI, gR, List.getD_eq_getElem?_getD, h]
  exact e ▸ i_enumT h
theorem enumP_at {n m : Nat} {f : Nat → Im} {a : Im} (h : ((List.range n).map f)[m]? = some a) : m < n ∧ a = f m := by
  have hm : m < n := by have := (List.getElem?_eq_some_iff.mp h).1; simpa using this
  rw [List.getElem?_map, List.getElem?_range hm] at h
  exact ⟨hm, (Option.some.inj h).symm⟩
end
def sp_check_sizes (K : PySem.W.Frag) : Sp := spD K fun ds k d => ∃ v b : Int, ds = [.int v, .int b] ∧ 1 ≤ v ∧ v ≤ 5 ∧ 0 ≤ b ∧ b ≤ 20 ∧ k = .v ∧ d = .none
def sp_check_rule (K : PySem.W.Frag) : Sp := spD K fun ds k d => ∃ R v b, ds = [.int v, .int b, .tuple (R.map rlD)] ∧ Rul R v b ∧ k = .v ∧ d = .none
def sp_is_left (K : PySem.W.Frag) : Sp := spD K fun ds k d => ∃ (p q : Pr) (v b : Int) (i : Nat), ds = [rlD p, rlD q, .int (i : Int)] ∧ OkP p v b ∧ OkP q v b ∧ (i : Int) < b ∧ k = .v ∧ d = .bool (leftB p q i)
def sp_first_left (K : PySem.W.Frag) : Sp := spD K fun ds k d => ∃ R v b, ds = [.tuple (R.map rlD), .int b] ∧ Rul R v b ∧ k = .v ∧ d = leftF R b.toNat
def sp_needless_leave (K : PySem.W.Frag) : Sp := spD K fun ds k d => ∃ R v b, ds = [.int v, .int b, .tuple (R.map rlD)] ∧ Rul R v b ∧ k = .v ∧ d = leftF R b.toNat
def sp_leaves (K : PySem.W.Frag) : Sp := spD K fun ds k d => ∃ (R : List Pr) (v b : Int) (i j l : Nat), ds = [.int v, .int b, .tuple (R.map rlD), .int (i : Int), .int (j : Int), .int (l : Int)] ∧ Rul R v b ∧ i < R.length ∧ j < R.length ∧ (l : Int) < b ∧ k = .v ∧ d = .bool (leftB (gR R i) (gR R j) l)
end Lm


/-! drawn assignments of an allocation; drawn tests -/
namespace Lm
open PySem PySem.Spec PyProof.Rows L2
structure Drw (as : List Int) (lf acc : List Int) (n : Nat) : Prop where
  len : lf.length = as.length
  al : acc.length = n
  nn : ∀ x ∈ lf, 0 ≤ x
  rng : ∀ x ∈ acc, 0 ≤ x ∧ x < (as.length : Int)
  cnt : ∀ i < as.length, (acc.count (i : Int) : Int) + lf.getD i 0 = as.getD i 0
  sum : lf.sum + (n : Int) = as.sum
theorem sum_setX : ∀ {l : List Int} {i : Nat} {x : Int}, i < l.length → (l.set i x).sum = l.sum - l.getD i 0 + x
  | [], _, _, h => by simp at h
  | a :: l, 0, x, _ => by simp only [List.set_cons_zero, List.sum_cons, List.getD_cons_zero]; omega
  | a :: l, i + 1, x, h => by
    have := sum_setX (l := l) (i := i) (x := x) (by simpa using h)
    simp only [List.set_cons_succ, List.sum_cons, List.getD_cons_succ]
    omega
theorem Drw.step {as lf acc : List Int} {n i : Nat} (h : Drw as lf acc n) (hi : i < as.length) (hp : 0 < lf.getD i 0) : Drw as (lf.set i (lf.getD i 0 - 1)) (acc ++ [(i : Int)]) (n + 1) := by
  have hl := h.len
  refine ⟨by simpa using hl, by simp [h.al], fun x hx => ?_, fun x hx => ?_, fun j hj => ?_, ?_⟩
  · rcases List.mem_or_eq_of_mem_set hx with w | w
    · exact h.nn x w
    · omega
  · rcases List.mem_append.mp hx with w | w
    · exact h.rng x w
    · rw [List.mem_singleton.mp w]; omega
  · have hc := h.cnt j hj
    rw [getD_setI (by omega), List.count_append]
    by_cases e : i = j
    · subst e
      have c1 : List.count (i : Int) [(i : Int)] = 1 := by simp
      rw [if_pos rfl, c1]
      omega
    · have c1 : List.count (j : Int) [(i : Int)] = 0 := List.count_eq_zero_of_not_mem (by simp; omega)
      rw [if_neg e, c1]
      omega
  · rw [sum_setX (by omega)]
    have := h.sum
    omega
section
variable {c : Ct} {Γ : List (Option Rs)} {te ta tb : TE} {tt tu : TT} {k ka kb : Kd} {a : Bool} {P : Out → Prop} {n : Nat}
end
end Lm


/-! what a rule allows -/
namespace Lm
open PySem PySem.Spec PyProof.Rows L2
section
variable {c : Ct} {Γ : List (Option Rs)} {ta tb : TE} {ka kb : Kd}
theorem q_cont {u : TS} {P : Out → Prop} (h : P (.ct Γ)) : Sd c (tSeq tCont u) Γ P :=
  s_seq (P1 := fun o => o = .ct Γ) (s_cont rfl) (fun _ e => nomatch e) (fun _ _ e => nomatch e) (fun _ e => nomatch e) (fun _ e => by cases e; exact h)
end
/-- one pair lets a bucket go to x -/
def letB (p : Pr) (A : List Int) (i : Nat) (x : Int) : Bool := decide (p.2.getD i 0 = x) || (!(!decide (p.2.getD i 0 = 0) && decide (p.1.getD (p.2.getD i 0).toNat 0 ≤ A.getD (p.2.getD i 0).toNat 0)) && !(!decide (x = 0) && decide (A.getD x.toNat 0 ≤ p.1.getD x.toNat 0)))
def alwB (R : List Pr) (A : List Int) (i : Nat) (x : Int) : Bool := R.all fun p => letB p A i x
def alwV (R : List Pr) (A : List Int) (v : Int) (i : Nat) : List Int := (upI 0 v.toNat).filter (alwB R A i)
def alwT (R : List Pr) (A : List Int) (v : Int) (b : Nat) : List (List Int) := (List.range b).map (alwV R A v)
theorem bads_len {R : List Pr} {A : List Int} {v : Int} {b : Nat} : (alwT R A v b).length = b := by simp [alwT]
theorem alwV_len {R : List Pr} {A : List Int} {v : Int} {i : Nat} : (alwV R A v i).length ≤ v.toNat := by
  unfold alwV
  refine Nat.le_trans (List.length_filter_le _ _) ?_
  simp [upI]
def sp_check_continuing (K : PySem.W.Frag) : Sp := spD K fun ds k d => ∃ R A v b, ds = [.int v, .int b, .tuple (R.map rlD), tupD A] ∧ Rul R v b ∧ Alc A v b ∧ k = .v ∧ d = .none
def sp_is_allowed (K : PySem.W.Frag) : Sp := spD K fun ds k d => ∃ (R : List Pr) (A : List Int) (v b : Int) (i x : Nat), ds = [.tuple (R.map rlD), tupD A, .int (i : Int), .int (x : Int)] ∧ Rul R v b ∧ Alc A v b ∧ (i : Int) < b ∧ (x : Int) < v ∧ k = .v ∧ d = .bool (alwB R A i x)
def sp_allowed_for_all (K : PySem.W.Frag) : Sp := spD K fun ds k d => ∃ R A v b, ds = [.int v, .int b, .tuple (R.map rlD), tupD A] ∧ Rul R v b ∧ Alc A v b ∧ k = .v ∧ d = .tuple ((alwT R A v b.toNat).map tupD)
def sp_allowed_variants (K : PySem.W.Frag) : Sp := spD K fun ds k d => ∃ R A v b, ds = [.int v, .int b, .tuple (R.map rlD), tupD A] ∧ Rul R v b ∧ Alc A v b ∧ k = .v ∧ d = .tuple ((alwT R A v b.toNat).map tupD)
end Lm


/-! the waste of rules -/
namespace Lm
open PySem PySem.Spec PyProof.Rows L2
section
variable {p q : Pr} {v b : Int}
/-- what a pair changes -/
def chP (p q : Pr) : Int := zs ne1 p.2 q.2
def tsP (p q : Pr) : Int := trI p.1 q.1
theorem OkP.ge (h : OkP p v b) (g : OkP q v b) (hv : 1 ≤ v) (hb : b ≤ 20) : tsP p q ≤ chP p q := by
  have := churn_ge (h.asg hb) (g.asg hb) (by have := h.len; have := g.len; omega) (by omega)
  rw [h.cnt, g.cnt] at this
  exact this
end
/-! the pair of the greatest waste -/
def rowW (R : List Pr) (r : List Int) : List Int := [r.getD 0 0, r.getD 1 0, chP (gR R (r.getD 0 0).toNat) (gR R (r.getD 1 0).toNat), tsP (gR R (r.getD 0 0).toNat) (gR R (r.getD 1 0).toNat)]
def wsI (r : List Int) : Int := r.getD 2 0 - r.getD 3 0
def bst1 (o : Option (List Int)) (r : List Int) : Option (List Int) := match o with
  | none => some r
  | some d => if wsI d < wsI r then some r else some d
def bstW (l : List (List Int)) : Option (List Int) := l.foldl bst1 none
def grtW : Option (List Int) → Int
  | none => -1
  | some d => wsI d
theorem bst_snoc {l : List (List Int)} {r : List Int} : bstW (l ++ [r]) = bst1 (bstW l) r := by
  unfold bstW
  rw [List.foldl_append]
  rfl
theorem bst_step {o : Option (List Int)} {r : List Int} (h : 0 ≤ wsI r) : bst1 o r = if grtW o < wsI r then some r else o := by
  cases o with
  | none => show some r = if (-1 : Int) < wsI r then some r else none; rw [if_pos (by omega)]
  | some d => rfl
theorem prL_pairs (n : Nat) : (pairL n).map castL = prL n := by
  unfold pairL prL prF
  rw [List.map_flatMap]
  congr 1
  funext i
  rw [List.map_map]
  rfl
def rowsW (R : List Pr) (l : List (List Int)) : List (List Int) := l.map (rowW R)
theorem row_ws {R : List Pr} {v b : Int} (h : Rul R v b) {i j : Nat} (hi : i < R.length) (hj : j < R.length) : 0 ≤ wsI (rowW R [(i : Int), (j : Int)]) := by
  have := (h.ok _ (gR_mem hi)).ge (h.ok _ (gR_mem hj)) h.v1 h.b20
  show 0 ≤ chP (gR R i) (gR R j) - tsP (gR R i) (gR R j)
  omega
def sp_most_waste (K : PySem.W.Frag) : Sp := spD K fun ds k d => ∃ R v b, ds = [.int v, .int b, .tuple (R.map rlD)] ∧ Rul R v b ∧ k = .v ∧ d = opD (bstW (rowsW R (prL R.length)))
end Lm


/-! two places exchanged; drawn changes; which pairs a table keeps -/
namespace Lm
open PySem PySem.Spec PyProof.Rows L2
section
variable {c : Ct} {H H0 : Hp} {O : List Addr} {σ : L2.St} {Γ : List (Option Rs)} {te ta tb tx ty : TE} {k ka kb kc : Kd} {P : Out → Prop} {n m : Nat} {i j x y : Int} {ns : List Int} {u : TS}
end
/-- drawn steps from one assignment to one of another allocation -/
structure Chg (A B g : List Int) (v : Int) (n : Nat) (t : Int) : Prop where
  rng : ∀ x ∈ g, 0 ≤ x ∧ x < v
  len : (g.length : Int) = B.sum
  up : ∀ x : Nat, (x : Int) < v → A.getD x 0 ≤ B.getD x 0 → (g.count (x : Int) : Int) ≤ B.getD x 0
  dn : ∀ x : Nat, (x : Int) < v → B.getD x 0 < A.getD x 0 → (g.count (x : Int) : Int) = if x < n then B.getD x 0 else if x = n then A.getD x 0 - t else A.getD x 0
section
variable {A B g : List Int} {v b : Int} {n : Nat} {t : Int}
theorem Chg.step (h : Chg A B g v n t) (ht : 0 ≤ t ∧ t < A.getD n 0 - B.getD n 0) (hn : (n : Int) < v) {p x : Nat} (hp : p < g.length) (hg : g.getD p 0 = (n : Int)) (hx : (x : Int) < v) (hw : (g.count (x : Int) : Int) < B.getD x 0) : Chg A B (g.set p (x : Int)) v n (t + 1) := by
  have cn := h.dn n hn (by omega)
  rw [if_neg (by omega), if_pos rfl] at cn
  have nx : x ≠ n := fun e => by subst e; omega
  have e1 : g[p] = (n : Int) := by rw [← hg]; simp [List.getD_eq_getElem?_getD, hp]
  have pos : 1 ≤ g.count (n : Int) := List.count_pos_iff.mpr (e1 ▸ List.getElem_mem hp)
  have cnt : ∀ y : Nat, ((g.set p (x : Int)).count (y : Int) : Int) = (g.count (y : Int) : Int) - (if y = n then 1 else 0) + (if y = x then 1 else 0) := fun y => by
    rw [List.count_set hp, e1]
    by_cases h1 : y = n
    · subst h1
      have : ¬ (x : Int) = (y : Int) := by omega
      simp [this, show ¬ y = x by omega]
      omega
    · by_cases h2 : y = x
      · subst h2
        have : ¬ (n : Int) = (y : Int) := by omega
        simp [this, h1]
      · have a1 : ¬ (n : Int) = (y : Int) := by omega
        have a2 : ¬ (x : Int) = (y : Int) := by omega
        simp [a1, a2, h1, h2]
  refine ⟨fun z hz => ?_, by simpa using h.len, fun y hy hd => ?_, fun y hy hd => ?_⟩
  · rcases List.mem_or_eq_of_mem_set hz with w | w
    · exact h.rng z w
    · omega
  · have := h.up y hy hd
    rw [cnt y]
    by_cases h1 : y = n
    · subst h1; omega
    · by_cases h2 : y = x
      · subst h2; rw [if_neg h1, if_pos rfl]; omega
      · rw [if_neg h1, if_neg h2]; omega
  · have hc := h.dn y hy hd
    have y2 : y ≠ x := fun e => by
      subst e
      rw [hc] at hw
      by_cases q : y < n
      · rw [if_pos q] at hw; omega
      · rw [if_neg q, if_neg nx] at hw; omega
    rw [cnt y, hc, if_neg y2]
    by_cases h1 : y = n
    · subst h1
      rw [if_neg (by omega), if_pos rfl, if_pos rfl, if_neg (by omega), if_pos rfl]
      omega
    · rw [if_neg h1]
      simp only [if_neg h1]
      omega
end
/-! which pairs a table keeps -/
end Lm


/-! which buckets fit: the mathematics -/
namespace Lm
open PySem PySem.Spec PyProof.Rows L2
abbrev Pk := Nat → Bool
/-- all its own are among the chosen -/
def insP (p : Pk) (own : List Int) : Bool := own.all fun y => p y.toNat
def rmP (as : List Int) (p : Pk) : Int := ((List.range as.length).map fun x => if p x then as.getD x 0 else 0).sum
def cfP (C : List (List Int)) (p : Pk) : Int := ((C.filter (insP p)).length : Nat)
def Hall (as : List Int) (C : List (List Int)) : Prop := ∀ p : Pk, cfP C p ≤ rmP as p
def dcI (x : Int) (as : List Int) : List Int := as.set x.toNat (as.getD x.toNat 0 - 1)
theorem dcI_len {x : Int} {as : List Int} : (dcI x as).length = as.length := by simp [dcI]
def b1 (b : Bool) : Int := if b then 1 else 0
theorem cf_cons {own : List Int} {C : List (List Int)} {p : Pk} : cfP (own :: C) p = cfP C p + b1 (insP p own) := by
  unfold cfP b1
  rw [List.filter_cons]
  split <;> simp
theorem cf_nn {C : List (List Int)} {p : Pk} : 0 ≤ cfP C p := by unfold cfP; omega
theorem sum_upd {g h : Nat → Int} : ∀ {n x : Nat}, x < n → (∀ i < n, i ≠ x → h i = g i) → ((List.range n).map h).sum = ((List.range n).map g).sum - g x + h x
  | n + 1, x, hx, e => by
    rw [List.range_succ, List.map_append, List.map_append, List.sum_append, List.sum_append]
    simp only [List.map_cons, List.map_nil, List.sum_cons, List.sum_nil]
    by_cases q : x = n
    · subst q
      have : (List.range x).map h = (List.range x).map g := List.map_congr_left fun i hi => e i (by have := List.mem_range.mp hi; omega) (by have := List.mem_range.mp hi; omega)
      rw [this]
      omega
    · have := sum_upd (n := n) (x := x) (g := g) (h := h) (by omega) fun i hi hn => e i (by omega) hn
      rw [this, e n (by omega) (fun z => q z.symm)]
      omega
theorem rm_dec {x : Int} {as : List Int} (hx : 0 ≤ x ∧ x < as.length) (p : Pk) : rmP (dcI x as) p = rmP as p - b1 (p x.toNat) := by
  unfold rmP
  rw [dcI_len]
  have xl : x.toNat < as.length := by omega
  have s : ∀ i, (dcI x as).getD i 0 = if x.toNat = i then as.getD x.toNat 0 - 1 else as.getD i 0 := fun i => getD_setI xl
  rw [sum_upd (g := fun i => if p i then as.getD i 0 else 0) xl fun i hi hn => by
    have e : (dcI x as).getD i 0 = as.getD i 0 := by rw [s, if_neg (fun z => hn z.symm)]
    rw [e]]
  rw [s, if_pos rfl]
  unfold b1
  split <;> omega
theorem rm_or (as : List Int) (p q : Pk) : rmP as (fun x => p x || q x) + rmP as (fun x => p x && q x) = rmP as p + rmP as q := by
  have e : ∀ (a c : Bool) (n : Int), (if (a || c) = true then n else 0) + (if (a && c) = true then n else 0) = (if a = true then n else 0) + (if c = true then n else 0) := fun a c n => by cases a <;> cases c <;> simp
  unfold rmP
  generalize List.range as.length = l
  induction l with
  | nil => rfl
  | cons x l ih =>
    have h1 := e (p x) (q x) (as.getD x 0)
    simp only [List.map_cons, List.sum_cons]
    simp only at ih
    omega
theorem ins_or {p q : Pk} {own : List Int} : insP p own = true → insP (fun x => p x || q x) own = true := fun h => by
  unfold insP at *
  rw [List.all_eq_true] at *
  intro y hy
  show (p y.toNat || q y.toNat) = true
  rw [h y hy]; rfl
theorem ins_or' {p q : Pk} {own : List Int} : insP q own = true → insP (fun x => p x || q x) own = true := fun h => by
  unfold insP at *
  rw [List.all_eq_true] at *
  intro y hy
  show (p y.toNat || q y.toNat) = true
  rw [h y hy, Bool.or_true]
theorem ins_and {p q : Pk} {own : List Int} : insP (fun x => p x && q x) own = (insP p own && insP q own) := by
  unfold insP
  induction own with
  | nil => rfl
  | cons y l ih =>
    simp only [List.all_cons, ih]
    cases p y.toNat <;> cases q y.toNat <;> simp
theorem cf_or (C : List (List Int)) (p q : Pk) : cfP C p + cfP C q ≤ cfP C (fun x => p x || q x) + cfP C (fun x => p x && q x) := by
  induction C with
  | nil => simp [cfP]
  | cons own C ih =>
    rw [cf_cons, cf_cons, cf_cons, cf_cons, ins_and]
    have h1 := ins_or (p := p) (q := q) (own := own)
    have h2 := ins_or' (p := p) (q := q) (own := own)
    unfold b1
    cases a : insP p own <;> cases c : insP q own <;> cases d : insP (fun x => p x || q x) own <;> simp_all <;> omega
/-- with such a bucket there is more in the two together -/
theorem cf_or1 {own : List Int} {C : List (List Int)} {p q : Pk} (h1 : insP p own = false) (h2 : insP q own = false) (h3 : insP (fun x => p x || q x) own = true) :
    cfP (own :: C) p + cfP (own :: C) q + 1 ≤ cfP (own :: C) (fun x => p x || q x) + cfP (own :: C) (fun x => p x && q x) := by
  have := cf_or C p q
  rw [cf_cons, cf_cons, cf_cons, cf_cons, ins_and, h1, h2, h3]
  simp only [b1, Bool.false_and, if_true, if_false, Bool.false_eq_true]
  omega
theorem hall_back {as own : List Int} {C : List (List Int)} {x : Int} (hx : x ∈ own) (x0 : 0 ≤ x ∧ x < as.length) (h : Hall (dcI x as) C) : Hall as (own :: C) := fun p => by
  have := h p
  rw [rm_dec x0] at this
  rw [cf_cons]
  unfold b1 at *
  cases q : insP p own with
  | false => split at this <;> simp only [if_false, Bool.false_eq_true] <;> omega
  | true =>
    unfold insP at q
    rw [List.all_eq_true.mp q x hx] at this
    simp only [if_true] at *
    omega
theorem hall_step {as own : List Int} {C : List (List Int)} (hr : ∀ y ∈ own, 0 ≤ y ∧ y < as.length) (h : Hall as (own :: C)) : ∃ x ∈ own, Hall (dcI x as) C := by
  refine Classical.byContradiction fun hc => ?_
  have bad : ∀ x ∈ own, ∃ p : Pk, p x.toNat = true ∧ insP p own = false ∧ cfP (own :: C) p = rmP as p := fun x hx => by
    refine Classical.byContradiction fun hn => hc ⟨x, hx, fun p => ?_⟩
    have hp := h p
    rw [rm_dec (hr x hx)]
    have hp' := hp
    rw [cf_cons] at hp
    unfold b1 at *
    cases q : insP p own with
    | true =>
      rw [q] at hp
      unfold insP at q
      rw [List.all_eq_true.mp q x hx]
      simp only [if_true] at *
      omega
    | false =>
      rw [q] at hp
      cases z : p x.toNat with
      | false => simp only [if_false, Bool.false_eq_true] at *; omega
      | true =>
        have ne : cfP (own :: C) p ≠ rmP as p := fun e => hn ⟨p, z, q, e⟩
        have e2 : cfP (own :: C) p = cfP C p := by rw [cf_cons, q]; simp [b1]
        simp only [if_true]
        omega
  have key : ∀ xs : List Int, (∀ x ∈ xs, x ∈ own) → ∃ U : Pk, insP U own = false ∧ (∀ x ∈ xs, U x.toNat = true) ∧ cfP (own :: C) U = rmP as U := by
    intro xs
    induction xs with
    | nil =>
      intro _
      have h0 := h fun _ => false
      have r0 : rmP as (fun _ => false) = 0 := by
        unfold rmP
        simp only [Bool.false_eq_true, if_false]
        exact sum_zeroN _
      have c0 := cf_nn (C := own :: C) (p := fun _ => false)
      have c1 := cf_nn (C := C) (p := fun _ => false)
      have hc0 := cf_cons (own := own) (C := C) (p := fun _ => false)
      refine ⟨fun _ => false, ?_, by simp, by omega⟩
      cases q : insP (fun _ => false) own with
      | false => rfl
      | true => rw [q] at hc0; simp only [b1, if_true] at hc0; omega
    | cons x xs ih =>
      intro hs
      obtain ⟨U, u1, u2, u3⟩ := ih fun y hy => hs y (by simp [hy])
      obtain ⟨p, p1, p2, p3⟩ := bad x (hs x (by simp))
      have hW := h fun y => U y || p y
      have hA := h fun y => U y && p y
      have ro := rm_or as U p
      refine ⟨fun y => U y || p y, ?_, fun y hy => ?_, ?_⟩
      · cases q : insP (fun y => U y || p y) own with
        | false => rfl
        | true =>
          have := cf_or1 (C := C) u1 p2 q
          omega
      · rcases List.mem_cons.mp hy with w | w
        · rw [w]; simp [p1]
        · simp [u2 y w]
      · have := cf_or (own :: C) U p
        omega
  obtain ⟨U, u1, u2, _⟩ := key own fun x hx => hx
  have : insP U own = true := by
    unfold insP
    rw [List.all_eq_true]
    exact u2
  rw [this] at u1
  cases u1
where sum_zeroN : ∀ l : List Nat, (l.map fun _ => (0 : Int)).sum = 0
  | [] => rfl
  | a :: l => by rw [List.map_cons, List.sum_cons, sum_zeroN l]; rfl
/-- each bucket has one of its own, and all shares are used up -/
def Fits : List Int → List (List Int) → List Int → Prop
  | as, [], [] => ∀ x ∈ as, x = 0
  | as, own :: C, x :: f => x ∈ own ∧ Fits (dcI x as) C f
  | _, _, _ => False
theorem sum_dcI {x : Int} {as : List Int} (hx : 0 ≤ x ∧ x < as.length) : (dcI x as).sum = as.sum - 1 := by
  unfold dcI
  rw [sum_setX (by omega)]
  omega
theorem rm_one {as : List Int} {x : Nat} (hx : x < as.length) : rmP as (fun y => decide (y = x)) = as.getD x 0 := by
  unfold rmP
  rw [sum_upd (g := fun _ => 0) hx fun i _ hn => by simp [hn], hall_step.sum_zeroN]
  simp
theorem hall_nn {as : List Int} {C : List (List Int)} (h : Hall as C) : ∀ x ∈ as, 0 ≤ x := fun x hx => by
  obtain ⟨i, hi⟩ := List.getElem?_of_mem hx
  have il := (List.getElem?_eq_some_iff.mp hi).1
  have := h fun y => decide (y = i)
  rw [rm_one il] at this
  have c := cf_nn (C := C) (p := fun y => decide (y = i))
  have e : as.getD i 0 = x := by rw [List.getD_eq_getElem?_getD, hi]; rfl
  omega
def Rng (C : List (List Int)) (n : Nat) : Prop := ∀ own ∈ C, ∀ y ∈ own, 0 ≤ y ∧ y < (n : Int)
theorem fit_hall : ∀ {C : List (List Int)} {as f : List Int}, Rng C as.length → Fits as C f → Hall as C
  | [], as, [], _, h => fun p => by
    have z : ∀ x ∈ as, x = 0 := h
    have e : rmP as p = 0 := by
      unfold rmP
      rw [List.map_congr_left (g := fun _ => (0 : Int)) fun i hi => by
        have : as.getD i 0 = 0 := z _ (gd_mem (List.mem_range.mp hi))
        rw [this]; split <;> rfl]
      exact hall_step.sum_zeroN _
    rw [e]
    simp [cfP]
  | own :: C, as, x :: f, hr, h => by
    obtain ⟨hx, hf⟩ := h
    exact hall_back hx (hr own (by simp) x hx) (fit_hall (by rw [dcI_len]; exact fun o ho => hr o (by simp [ho])) hf)
  | [], _, _ :: _, _, h => absurd h id
  | _ :: _, _, [], _, h => absurd h id
open Classical in
noncomputable def grd : List Int → List (List Int) → List Int
  | _, [] => []
  | as, own :: C => (own.filter fun x => decide (Hall (dcI x as) C)).headD 0 :: grd (dcI ((own.filter fun x => decide (Hall (dcI x as) C)).headD 0) as) C
theorem headF_mem {l : List Int} {p : Int → Bool} (h : ∃ x ∈ l, p x = true) : (l.filter p).headD 0 ∈ l ∧ p ((l.filter p).headD 0) = true := by
  obtain ⟨x, hx, hp⟩ := h
  have m : x ∈ l.filter p := List.mem_filter.mpr ⟨hx, hp⟩
  cases q : l.filter p with
  | nil => rw [q] at m; cases m
  | cons y r =>
    have : y ∈ l.filter p := by rw [q]; simp
    exact List.mem_filter.mp this
open Classical in
theorem grd_fit : ∀ {C : List (List Int)} {as : List Int}, Rng C as.length → Hall as C → as.sum = C.length → Fits as C (grd as C)
  | [], as, _, h, hs => fun x hx => by
    have nn := hall_nn h
    have := nn x hx
    have := le_sum nn x hx
    simp at hs
    omega
  | own :: C, as, hr, h, hs => by
    have ro := hr own (by simp)
    obtain ⟨x, hx, hh⟩ := hall_step ro h
    obtain ⟨m1, m2⟩ := headF_mem (l := own) (p := fun x => decide (Hall (dcI x as) C)) ⟨x, hx, decide_eq_true hh⟩
    have m2 := of_decide_eq_true m2
    refine ⟨m1, grd_fit (by rw [dcI_len]; exact fun o ho => hr o (by simp [ho])) m2 ?_⟩
    rw [sum_dcI (ro _ m1), hs]
    simp
end Lm


/-! which buckets fit: by all sets of variants -/
namespace Lm
open PySem PySem.Spec PyProof.Rows L2
theorem cmb_sub : ∀ {l : List Nat} {k : Nat} {s : List Nat}, s ∈ cmbL l k → s.Sublist l
  | _, 0, s, h => by
    have : s = [] := by simpa [cmbL] using h
    rw [this]
    exact List.nil_sublist _
  | [], k + 1, s, h => by simp [cmbL] at h
  | a :: l, k + 1, s, h => by
    rcases List.mem_append.mp h with w | w
    · obtain ⟨t, ht, rfl⟩ := List.mem_map.mp w
      exact (cmb_sub ht).cons_cons a
    · exact (cmb_sub w).cons a
theorem cmb_filter (p : Nat → Bool) : ∀ l : List Nat, l.filter p ∈ cmbL l (l.filter p).length
  | [] => by simp [cmbL]
  | a :: l => by
    have ih := cmb_filter p l
    rw [List.filter_cons]
    by_cases h : p a = true
    · rw [if_pos h, List.length_cons]
      exact List.mem_append_left _ (List.mem_map_of_mem ih)
    · rw [if_neg h]
      cases q : (l.filter p).length with
      | zero => rw [List.eq_nil_of_length_eq_zero q]; simp [cmbL]
      | succ k => rw [q] at ih; exact List.mem_append_right _ ih
/-- all sets of variants, the smaller ones first -/
def vsN (v : Nat) : List (List Nat) := (List.range (v + 1)).flatMap fun k => cmbs v k
theorem vs_sub {v : Nat} {s : List Nat} (h : s ∈ vsN v) : s.Sublist (List.range v) := by
  obtain ⟨k, _, hs⟩ := List.mem_flatMap.mp h
  exact cmb_sub hs
theorem vs_filter (v : Nat) (p : Nat → Bool) : (List.range v).filter p ∈ vsN v := by
  refine List.mem_flatMap.mpr ⟨((List.range v).filter p).length, List.mem_range.mpr ?_, cmb_filter p _⟩
  have := List.length_filter_le p (List.range v)
  rw [List.length_range] at this
  omega
theorem vs_len : ∀ v < 6, (vsN v).length ≤ 32 := by decide +kernel
theorem vs_pos (v : Nat) : 0 < (vsN v).length := List.length_pos_of_mem (vs_filter v fun _ => false)
def inS (s : List Nat) : Pk := fun x => decide (x ∈ s)
/-- what a set of variants has, and how many buckets need it -/
def roomI (as : List Int) (s : List Nat) : Int := (s.map fun x => as.getD x 0).sum
theorem sum_sub {g : Nat → Int} : ∀ {l s : List Nat}, s.Sublist l → l.Nodup → (s.map g).sum = (l.map fun x => if decide (x ∈ s) then g x else 0).sum
  | _, _, .slnil, _ => rfl
  | a :: l, s, .cons _ h, nd => by
    have na : a ∉ s := fun m => (List.nodup_cons.mp nd).1 (h.subset m)
    rw [List.map_cons, List.sum_cons, sum_sub h (List.nodup_cons.mp nd).2, decide_eq_false na]
    simp
  | a :: l, _ :: s, .cons_cons _ h, nd => by
    have nd' := List.nodup_cons.mp nd
    rw [List.map_cons, List.sum_cons, List.map_cons, List.sum_cons, sum_sub h nd'.2]
    have e : (l.map fun x => if decide (x ∈ s) then g x else 0) = l.map fun x => if decide (x ∈ a :: s) then g x else 0 := List.map_congr_left fun x hx => by
      have : x ≠ a := fun e => nd'.1 (e ▸ hx)
      simp [this]
    rw [e]
    simp
theorem room_rm {as : List Int} {s : List Nat} (h : s ∈ vsN as.length) : roomI as s = rmP as (inS s) := sum_sub (vs_sub h) List.nodup_range
theorem rm_congr {as : List Int} {p q : Pk} (h : ∀ x < as.length, p x = q x) : rmP as p = rmP as q := by
  unfold rmP
  rw [List.map_congr_left fun x hx => by rw [h x (List.mem_range.mp hx)]]
theorem cf_congr {C : List (List Int)} {n : Nat} {p q : Pk} (hr : Rng C n) (h : ∀ x < n, p x = q x) : cfP C p = cfP C q := by
  unfold cfP
  rw [List.filter_congr fun own ho => ?_]
  unfold insP
  rw [Bool.eq_iff_iff, List.all_eq_true, List.all_eq_true]
  exact ⟨fun w y hy => by rw [← h _ (by have := hr own ho y hy; omega)]; exact w y hy, fun w y hy => by rw [h _ (by have := hr own ho y hy; omega)]; exact w y hy⟩
def spI (as : List Int) (C : List (List Int)) (s : List Nat) : Int := roomI as s - cfP C (inS s)
theorem hall_iff {as : List Int} {C : List (List Int)} (hr : Rng C as.length) : Hall as C ↔ ∀ s ∈ vsN as.length, 0 ≤ spI as C s := by
  unfold spI
  constructor
  · intro h s hs
    have := h (inS s)
    rw [room_rm hs]
    omega
  · intro h p
    have := h _ (vs_filter as.length p)
    rw [room_rm (vs_filter _ _)] at this
    have e : ∀ x < as.length, inS ((List.range as.length).filter p) x = p x := fun x hx => by
      unfold inS
      cases q : p x with
      | true => exact decide_eq_true (List.mem_filter.mpr ⟨List.mem_range.mpr hx, q⟩)
      | false => exact decide_eq_false fun m => by rw [(List.mem_filter.mp m).2] at q; cases q
    rw [rm_congr e, cf_congr hr e] at this
    omega
def spsL (as : List Int) (C : List (List Int)) : List Int := (vsN as.length).map (spI as C)
theorem mn_iff {l : List Int} (h : 0 < l.length) : 0 ≤ mnL l ↔ ∀ x ∈ l, 0 ≤ x := by
  constructor
  · intro q x hx
    have := mnL_le x hx
    omega
  · intro q
    exact q _ (mnL_mem h)
theorem hall_mn {as : List Int} {C : List (List Int)} (hr : Rng C as.length) : Hall as C ↔ 0 ≤ mnL (spsL as C) := by
  rw [hall_iff hr, mn_iff (by unfold spsL; rw [List.length_map]; exact vs_pos _)]
  unfold spsL
  simp
/-- what is left when a bucket takes one of its own -/
def aftS (as : List Int) (own : List Int) (C : List (List Int)) (x : Int) : List Int := (vsN as.length).map fun s => spI as (own :: C) s - b1 (inS s x.toNat && !insP (inS s) own)
theorem aft_is {as own : List Int} {C : List (List Int)} {x : Int} (hx : x ∈ own) (x0 : 0 ≤ x ∧ x < as.length) : aftS as own C x = spsL (dcI x as) C := by
  unfold aftS spsL
  rw [dcI_len]
  refine List.map_congr_left fun s hs => ?_
  unfold spI
  rw [room_rm hs, room_rm (by rw [dcI_len]; exact hs), rm_dec x0, cf_cons]
  unfold b1
  cases q : insP (inS s) own with
  | true =>
    have : inS s x.toNat = true := List.all_eq_true.mp q x hx
    rw [this]; simp; omega
  | false => cases inS s x.toNat <;> simp <;> omega
/-- the first assignment that fits, or none -/
noncomputable def ffO (as : List Int) (C : List (List Int)) : Option (List Int) := @ite _ (Hall as C) (Classical.propDecidable _) (some (grd as C)) none
theorem fits_iff : ∀ {C : List (List Int)} {as f : List Int}, Rng C as.length → (Fits as C f ↔ f.length = C.length ∧ (∀ i < f.length, f.getD i 0 ∈ C.getD i []) ∧ ∀ x < as.length, (f.count (x : Int) : Int) = as.getD x 0)
  | [], as, [], _ => by
    constructor
    · intro h
      exact ⟨rfl, by simp, fun x hx => by
        have h' : ∀ x ∈ as, x = 0 := h
        rw [h' _ (gd_mem hx)]; rfl⟩
    · rintro ⟨_, _, h⟩ x hx
      obtain ⟨i, hi⟩ := List.getElem?_of_mem hx
      have := h i (List.getElem?_eq_some_iff.mp hi).1
      rw [List.getD_eq_getElem?_getD, hi] at this
      simpa using this.symm
  | own :: C, as, x :: f, hr => by
    have rC : Rng C (dcI x as).length := by rw [dcI_len]; exact fun o ho => hr o (by simp [ho])
    have ih := fits_iff (as := dcI x as) (f := f) rC
    have cnt : ∀ (x0 : 0 ≤ x ∧ x < as.length) (y : Nat), y < as.length → (((x :: f).count (y : Int) : Int) = as.getD y 0 ↔ (f.count (y : Int) : Int) = (dcI x as).getD y 0) := fun x0 y hy => by
      have e : (dcI x as).getD y 0 = if x.toNat = y then as.getD x.toNat 0 - 1 else as.getD y 0 := getD_setI (by omega)
      rw [e, List.count_cons]
      by_cases w : x.toNat = y
      · subst w
        have : x = ((x.toNat : Nat) : Int) := by omega
        rw [if_pos rfl, if_pos (by rw [beq_iff_eq]; exact this)]
        omega
      · have : ¬ x = (y : Int) := by omega
        rw [if_neg w, if_neg (by simpa using this)]
        omega
    show x ∈ own ∧ Fits (dcI x as) C f ↔ _
    rw [ih, dcI_len]
    constructor
    · rintro ⟨hx, h1, h2, h3⟩
      have x0 := hr own (by simp) x hx
      refine ⟨by simp [h1], fun i hi => ?_, fun y hy => (cnt x0 y hy).mpr (h3 y hy)⟩
      cases i with
      | zero => exact hx
      | succ i => exact h2 i (by simpa using hi)
    · rintro ⟨h1, h2, h3⟩
      have hx : x ∈ own := h2 0 (by simp)
      have x0 := hr own (by simp) x hx
      exact ⟨hx, by simpa using h1, fun i hi => h2 (i + 1) (by simpa using hi), fun y hy => (cnt x0 y hy).mp (h3 y hy)⟩
  | [], _, _ :: _, _ => by simp [Fits]
  | _ :: _, _, [], _ => by simp [Fits]
end Lm


/-! which buckets fit: the promises -/
namespace Lm
open PySem PySem.Spec PyProof.Rows L2
/-- menus, in a list or in a tuple -/
def MnD (C : List (List Int)) (d : PyData) : Prop := d = .list (C.map tupD) ∨ d = .tuple (C.map tupD)
structure Mns (C : List (List Int)) (n : Nat) : Prop where
  rng : Rng C n
  len : C.length ≤ 20
  own : ∀ own ∈ C, own.length ≤ 5
section
variable {c : Ct} {Γ : List (Option Rs)} {tl : TE} {k : Kd} {C : List (List Int)} {d : PyData}
theorem i_mns (h : Ev c tl Γ .v d) (m : MnD C d) : EvI c (iSeq c.K tl) Γ true (C.map tupI) := by
  rcases m with rfl | rfl
  · exact i_rows h kv_ne
  · exact i_rowsT h kv_ne
theorem i_mnsE (h : Ev c tl Γ .v d) (m : MnD C d) : EvI c (iEnumA c.K (tCons tl tNil)) Γ true ((List.range C.length).map fun i => .t [.d (.int (i : Nat)), .d (tupD (C.getD i []))]) := by
  rcases m with rfl | rfl
  · exact enumI_rows ▸ i_enumLO h kv_ne
  · exact enumI_rows ▸ i_enumT (a_consV h a_nil)
theorem d_lenM (h : Ev c tl Γ .v d) (m : MnD C d) : Ev c (tCB (rLen c.K) (tCons tl tNil)) Γ .v (.int (C.length : Nat)) := by
  rcases m with rfl | rfl
  · exact (d_lenL h).to (by rw [List.length_map])
  · exact (d_lenT h).to (by rw [List.length_map])
theorem i_combV {te tk : TE} {ke kk : Kd} {n k : Nat} {seq : List (List Nat)} (h : Ev c te Γ ke (.int (n : Int))) (h2 : Ev c tk Γ kk (.int (k : Int))) (hn : n ≤ 1000) (hk : k ≤ 1000) (ok : PlacesOk n k seq) : EvI c (iComb (tCons (tCB rRng1 (tCons te tNil)) (tCons tk tNil))) Γ true (seq.map fun ks => .d (plcD ks)) := fun H0 O H σ e R q =>
  h H0 O H σ e _ fun v H1 r s => by
    have ev := (Res.bo e s).int'
    subst ev
    refine ⟨(n : Int), rfl, fun p hp => ?_⟩
    have sm0 : Same H1 (upd H1 p (.rng 0 (n : Int))) := fun b o z => by rw [upd_ne (ne_of_none z hp)]; exact z
    have r2 : Rr c H (upd H1 p (.rng 0 (n : Int))) := r.tr (Rr.same sm0)
    refine h2 H0 O _ σ (e.on r2) _ fun w H3 r3 s3 => ?_
    have ew := (Res.bo (e.on r2) s3).int'
    subst ew
    have okp : okA c p := okA.fresh (e.on r).jH hp
    refine ⟨p, n, k, seq, rfl, r3.1 p _ okp upd_same, hn, hk, ok, ?_⟩
    have r4 := r2.tr r3
    refine q _ _ r4 ⟨(e.on r4).j, ?_⟩
    rw [List.length_map]
    refine walk_comb.mono (fun _ _ => trivial) fun i H' v H'' hi g w => ?_
    obtain ⟨T, o, ks, hks, rfl, ho, hT, rfl⟩ := w
    have sm : Same H' (upd H' T (.frz o (.tup (ks.map fun (i : Nat) => V.int i)))) := fun b o z => by rw [upd_ne (ne_of_none z hT)]; exact z
    refine ⟨sm, .d (plcD ks), by rw [List.getElem?_map, hks]; rfl, .leaf (.inl ⟨flatT _, .tup (.inl ⟨o, ho, upd_same⟩) ?_⟩)⟩
    have e1 : (ks.map fun (i : Nat) => V.int (i : Int)) = (ks.map fun (i : Nat) => (i : Int)).map V.int := by rw [List.map_map]; rfl
    rw [e1]
    exact BoAll.ofInts _
theorem i_zipLL {ta tb : TE} {ka kb : Kd} {ds es : List PyData} (h1 : Ev c ta Γ ka (.list ds)) (h2 : Ev c tb Γ kb (.list es)) (n1 : ka ≠ .b) (n2 : kb ≠ .b) : EvI c (RZ.iZipA c.K (tCons ta (tCons tb tNil))) Γ true (zipD ds es) := fun H0 O H σ e R q =>
  h1 H0 O H σ e _ fun v1 H1 r1 s1 => h2 H0 O H1 σ (e.on r1) _ fun v2 H2 r2 s2 => by
    have r : Rr c H H2 := r1.tr r2
    have b1 : Bo c (mns H2 O) v1 (.list ds) := Res.frozen e r (Res.on e r1 r2 s1) n1
    have b2 : Bo c (mns H2 O) v2 (.list es) := Res.frozen (e.on r1) r2 s2 n2
    obtain ⟨p, xs, rfl, ok1, sl, al⟩ := b1.lst'
    obtain ⟨p2, ys, rfl, ok2, sl2, al2⟩ := b2.lst'
    refine ⟨p, p2, xs, ys, rfl, .inl ⟨mns_same.seq sl, mns_same.seq sl2, q _ H2 r ⟨(e.on r).j, ?_⟩⟩⟩
    have hl : (zipD ds es).length = min xs.length ys.length := by rw [al.len, al2.len]; simp [zipD]
    refine (walk_zipLs hl).mono (fun H h => ⟨h.lst ok1 sl, h.lst ok2 sl2⟩) fun i H v H' hi g w => ?_
    obtain ⟨T, u1, u2, rfl, hT, rfl, g1, g2⟩ := w
    obtain ⟨d1, hd1, bd1⟩ := al.get g1
    obtain ⟨d2, hd2, bd2⟩ := al2.get g2
    have sm : Same H (upd H T (.tup [u1, u2])) := fun b o z => by rw [upd_ne (ne_of_none z hT)]; exact z
    refine ⟨sm, .t [.d d1, .d d2], ?_, .tup (.inl (.inl upd_same)) (.cons (.leaf (.inr ⟨rfl, bd1⟩)) (.cons (.leaf (.inr ⟨rfl, bd2⟩)) .nil))⟩
    have : (ds.zip es)[i]? = some (d1, d2) := by rw [List.getElem?_zip_eq_some]; exact ⟨hd1, hd2⟩
    simp [zipD, this]
end
def setD (s : List Nat) : PyData := tupD (castL s)
def cnfL (C : List (List Int)) (s : List Nat) : List Int := ((List.range C.length).filter fun i => insP (inS s) (C.getD i [])).map fun (i : Nat) => (i : Int)
theorem filt_range {p : List Int → Bool} : ∀ C : List (List Int), ((List.range C.length).filter fun i => p (C.getD i [])).length = (C.filter p).length
  | [] => rfl
  | own :: C => by
    have ih := filt_range (p := p) C
    rw [List.length_cons, List.range_succ_eq_map, List.filter_cons, List.filter_cons]
    have e : ((List.range C.length).map Nat.succ).filter (fun i => p ((own :: C).getD i [])) = ((List.range C.length).filter fun i => p (C.getD i [])).map Nat.succ := by
      rw [List.filter_map]
      congr 1
    rw [e]
    by_cases h : p own = true
    · rw [if_pos (show p ((own :: C).getD 0 []) = true from h), if_pos h, List.length_cons, List.length_cons, List.length_map, ih]
    · rw [if_neg (show ¬ p ((own :: C).getD 0 []) = true from h), if_neg h, List.length_map, ih]
theorem cnf_len {C : List (List Int)} {s : List Nat} : ((cnfL C s).length : Int) = cfP C (inS s) := by
  unfold cnfL cfP
  rw [List.length_map, filt_range]
def sp_variant_sets (K : PySem.W.Frag) : Sp := spD K fun ds k d => ∃ v : Nat, ds = [.int (v : Int)] ∧ v ≤ 5 ∧ k = .o ∧ d = .list ((vsN v).map setD)
def sp_is_inside (K : PySem.W.Frag) : Sp := spD K fun ds k d => ∃ (own : List Int) (s : List Nat), ds = [tupD own, setD s] ∧ own.length ≤ 1000 ∧ (∀ y ∈ own, 0 ≤ y) ∧ k = .v ∧ d = .bool (insP (inS s) own)
def sp_room (K : PySem.W.Frag) : Sp := spD K fun ds k d => ∃ (as : List Int) (s : List Nat), ds = [tupD as, setD s] ∧ (∀ x ∈ s, x < as.length) ∧ s.length ≤ 1000 ∧ k = .v ∧ d = .int (roomI as s)
def sp_confined (K : PySem.W.Frag) : Sp := spD K fun ds k d => ∃ (C : List (List Int)) (s : List Nat) (n : Nat) (cd : PyData), ds = [cd, setD s] ∧ MnD C cd ∧ Mns C n ∧ k = .v ∧ d = tupD (cnfL C s)
def sp_spare_after (K : PySem.W.Frag) : Sp := spD K fun ds k d => ∃ (as own : List Int) (C : List (List Int)) (x : Nat), ds = [.list ((vsN as.length).map setD), .list ((spsL as (own :: C)).map .int), tupD own, .int (x : Int)] ∧ as.length ≤ 5 ∧ own.length ≤ 5 ∧ (∀ y ∈ own, 0 ≤ y) ∧ k = .o ∧ d = .list ((aftS as own C x).map .int)
def sp_first_fit (K : PySem.W.Frag) : Sp := spD K fun ds k d => ∃ (as : List Int) (C : List (List Int)) (cd : PyData), ds = [tupD as, cd] ∧ MnD C cd ∧ Mns C as.length ∧ as.length ≤ 5 ∧ as.sum = C.length ∧ k = .v ∧ d = opD (ffO as C)
end Lm


/-! sorted(set(..)) of ints, and of rows -/
namespace Lm
open PySem PySem.Spec PyProof.Rows L2
section
variable {X : Cx}
def rSetTI (K : PySem.W.Frag) (w : World) : List V → Hp → VK → Prop := fun vs H Q => ∃ (l : Addr) (ns : List Int), vs = [.ref l] ∧ SqT K H l (ns.map V.int) ∧ ns.length ≤ 4000 ∧ ∀ (p : Addr) (n : Nat), H p = none → n ≤ ns.length → Q (.ref p) (upd H p (SetO w p (fun j => decide (j ∈ ns)) n))
theorem cr_setTI (hc : X.calm = true) : CallR X (.type "set") (rSetTI X.K X.w) := by
  intro pins s σ H vs us Q I r h
  obtain ⟨l, ns, rfl, hq, hl, q⟩ := h
  rw [Vals.ref1 r]
  obtain ⟨its, rv, pl, hz⟩ := I.tuple hq
  have hn : H s.heap.objs.size = none := I.hok.fresh (Nat.le_refl _)
  refine call_set_tupI ns (I.ok.hd hc) (show s.heap.IsTuple l its.toArray from pl) (by simpa using ints_of_vals rv) (by unfold scanBound; omega) fun g tk n hS hn' hk => ?_
  exact ⟨.ref s.heap.objs.size, _, I.laid (t' := tk) hk (Nat.le_refl _) (setO_new hS), rfl, q _ n hn hn'⟩
section
variable {K : PySem.W.Frag} (hK : X.K = K)
include hK
theorem k_setTI (hc : X.calm = true) : CallR X (.type "set") (rSetTI K X.w) := hK ▸ cr_setTI hc
end
end
/-- each value once, ascending -/
def sdI (ns : List Int) : List Int := sortI (dd ns)
theorem asc_unique : ∀ {as bs : List Int}, as.Pairwise (· < ·) → bs.Pairwise (· < ·) → (∀ x, x ∈ as ↔ x ∈ bs) → as = bs
  | [], [], _, _, _ => rfl
  | [], b :: _, _, _, h => absurd ((h b).mpr (by simp)) (by simp)
  | a :: _, [], _, _, h => absurd ((h a).mp (by simp)) (by simp)
  | a :: as, b :: bs, pa, pb, h => by
    have qa := List.pairwise_cons.mp pa
    have qb := List.pairwise_cons.mp pb
    have ab : a = b := by
      have h1 : a ∈ b :: bs := (h a).mp (by simp)
      have h2 : b ∈ a :: as := (h b).mpr (by simp)
      rcases List.mem_cons.mp h1 with w | w
      · exact w
      · rcases List.mem_cons.mp h2 with u | u
        · exact u.symm
        · have := qb.1 a w; have := qa.1 b u; omega
    subst ab
    rw [asc_unique qa.2 qb.2 fun x => ?_]
    constructor
    · intro hx
      rcases List.mem_cons.mp ((h x).mp (by simp [hx])) with w | w
      · subst w; have := qa.1 x hx; omega
      · exact w
    · intro hx
      rcases List.mem_cons.mp ((h x).mpr (by simp [hx])) with w | w
      · subst w; have := qb.1 x hx; omega
      · exact w
theorem pw_strict {l : List Int} (p : l.Pairwise (· ≤ ·)) (nd : l.Nodup) : l.Pairwise (· < ·) := by
  rw [List.pairwise_iff_getElem] at *
  intro i j hi hj hij
  have h1 := p i j hi hj hij
  have h2 : l[i] ≠ l[j] := List.pairwise_iff_getElem.mp nd i j hi hj hij
  omega
theorem sd_pw (ns : List Int) : (sdI ns).Pairwise (· < ·) := pw_strict (sortI_pw _) ((sortI_perm _).nodup_iff.mpr nd_dd)
theorem mem_sd {ns : List Int} {x : Int} : x ∈ sdI ns ↔ x ∈ ns := by
  unfold sdI
  rw [(sortI_perm _).mem_iff, mem_dd]
theorem sd_self {ns : List Int} : ns = sdI ns ↔ ns.Pairwise (· < ·) := by
  constructor
  · intro h; rw [h]; exact sd_pw ns
  · intro h; exact asc_unique h (sd_pw ns) fun x => mem_sd.symm
section
variable {c : Ct} {Γ : List (Option Rs)} {te : TE} {k : Kd}
theorem e_sortSetI {w : World} {ns : List Int} (h : Ev c te Γ k (.tuple (ns.map .int))) (hl : ns.length < 64) : Ev c (tCB (rSortedSet w) (tCons (tCB (rSetTI c.K w) (tCons te tNil)) tNil)) Γ .o (.list ((sdI ns).map .int)) := fun H0 O H σ e Q q =>
  h H0 O H σ e _ fun v H1 r1 s1 => by
    obtain ⟨p, xs, rfl, s, al⟩ := (Res.bo e s1).tup'
    have := al.ints
    subst this
    refine ⟨p, ns, rfl, s.sq, by omega, fun a n ha hn => ⟨a, _, n, rfl, upd_same, by omega, fun ms b pm mem hl' hb => ?_⟩⟩
    have e1 : ms = sdI ns := asc_unique pm (sd_pw ns) fun x => by rw [mem x, mem_sd]; simp
    subst e1
    have sm0 : Same H1 (upd H1 a (SetO w a (fun j => decide (j ∈ ns)) n)) := fun x o z => by rw [upd_ne (ne_of_none z ha)]; exact z
    have sm1 : Same (upd H1 a (SetO w a (fun j => decide (j ∈ ns)) n)) (upd (upd H1 a (SetO w a (fun j => decide (j ∈ ns)) n)) b (.lst ((sdI ns).map V.int))) := fun x o z => by rw [upd_ne (ne_of_none z hb)]; exact z
    have r2 := r1.tr (Rr.same sm0)
    refine q _ _ (r2.tr (Rr.same sm1)) ⟨[b], .lst upd_same (.leaves (flatAll_ints _) (BoAll.ofInts _)), by simp, fun x hx => ?_⟩
    rw [List.mem_singleton.mp hx]
    exact r2.back e.jH hb
end
end Lm


/-! shortages, and how rules go on -/
namespace Lm
open PySem PySem.Spec PyProof.Rows L2
/-- the first set of variants that is too small -/
def shS (as : List Int) (C : List (List Int)) : Option (List Nat) := (vsN as.length).find? fun s => decide (roomI as s < cfP C (inS s))
def shD (C : List (List Int)) : Option (List Nat) → PyData
  | none => .none
  | some s => .tuple [setD s, tupD (cnfL C s)]
theorem sh_some {as : List Int} {C : List (List Int)} {s : List Nat} (h : shS as C = some s) : s ∈ vsN as.length ∧ roomI as s < cfP C (inS s) := by
  unfold shS at h
  have q := List.find?_some h
  exact ⟨List.mem_of_find?_eq_some h, by simpa using q⟩
theorem flat_sh {C : List (List Int)} : ∀ {o : Option (List Nat)}, flatD (shD C o) = true
  | none => rfl
  | some s => by
    show (flatD (setD s) && (flatD (tupD (cnfL C s)) && true)) = true
    rw [show flatD (setD s) = true from flatT _, flatT]
    rfl
def sp_first_shortage (K : PySem.W.Frag) : Sp := spD K fun ds k d => ∃ (as : List Int) (C : List (List Int)) (cd : PyData), ds = [tupD as, cd] ∧ MnD C cd ∧ Mns C as.length ∧ as.length ≤ 5 ∧ k = .v ∧ d = shD C (shS as C)
section
variable {c : Ct} {Γ : List (Option Rs)} {tl tb : TE} {kb : Kd} {C : List (List Int)} {cd : PyData}
theorem e_ixM {i : Nat} (h : Ev c tl Γ .v cd) (m : MnD C cd) (hb : Ev c tb Γ kb (.int (i : Int))) (hi : i < C.length) : Ev c (tOp (rIx c.K) tl tb) Γ .v (tupD (C.getD i [])) := by
  rcases m with rfl | rfl
  · exact e_ixL h hb (at_tup hi) (flatT _)
  · exact e_ixT h hb (at_tup hi) (flatT _)
end
/-! rules -/
def lftO (R : List Pr) (b : Nat) : Option (Nat × Nat × Nat) := (triN R.length b).find? (lftP R)
def trD (t : Nat × Nat × Nat) : List PyData := [.int (t.1 : Int), .int (t.2.1 : Int), .int (t.2.2 : Int)]
theorem leftF_o {R : List Pr} {b : Nat} : leftF R b = match lftO R b with | none => .none | some t => .tuple (trD t) := rfl
def whyD (R : List Pr) (A : List Int) (v : Int) (b : Nat) : PyData := match lftO R b with
  | some t => .tuple (.str "needless" :: trD t)
  | none => match shS A (alwT R A v b) with
    | some s => .tuple [.str "short", setD s, tupD (cnfL (alwT R A v b) s)]
    | none => .none
noncomputable def conO (R : List Pr) (A : List Int) (v : Int) (b : Nat) : Option (List Int) := match lftO R b with
  | some _ => none
  | none => ffO A (alwT R A v b)
theorem alw_mns {R : List Pr} {A : List Int} {v : Int} {b : Nat} (hA : (A.length : Int) = v) (h5 : v ≤ 5) (hb : b ≤ 20) : Mns (alwT R A v b) A.length := by
  refine ⟨fun own ho y hy => ?_, by rw [bads_len]; exact hb, fun own ho => ?_⟩
  · obtain ⟨i, _, rfl⟩ := List.mem_map.mp ho
    have := mem_upI.mp (List.mem_filter.mp hy).1
    omega
  · obtain ⟨i, _, rfl⟩ := List.mem_map.mp ho
    have := alwV_len (R := R) (A := A) (v := v) (i := i)
    omega
def sp_continuation (K : PySem.W.Frag) : Sp := spD K fun ds k d => ∃ (R : List Pr) (A : List Int) (v : Int) (b : Nat), ds = [.int v, .int (b : Int), .tuple (R.map rlD), tupD A] ∧ Rul R v b ∧ Alc A v b ∧ k = .v ∧ d = opD (conO R A v b)
def sp_why_none (K : PySem.W.Frag) : Sp := spD K fun ds k d => ∃ (R : List Pr) (A : List Int) (v : Int) (b : Nat), ds = [.int v, .int (b : Int), .tuple (R.map rlD), tupD A] ∧ Rul R v b ∧ Alc A v b ∧ k = .v ∧ d = whyD R A v b
end Lm


/-! walks over sets of variants; is not True -/
namespace Lm
open PySem PySem.Spec PyProof.Rows L2
section
variable {c : Ct} {Γ : List (Option Rs)} {tl te : TE} {k : Kd} {L : List (List Nat)} {a t : Bool}
theorem i_sets (h : Ev c tl Γ k (.list (L.map setD))) (hk : k ≠ .b) : EvI c (iSeq c.K tl) Γ true (L.map fun s => Im.d (setD s)) := by
  have := i_seqL h hk
  rwa [List.map_map] at this
end
end Lm


/-! strings in comparisons; whys -/
namespace Lm
open PySem PySem.Spec PyProof.Rows L2
theorem str_ok (s : String) : PyData.strOk (Str.ofString s) = true := by
  rw [Str.ofString_eq_toList]
  unfold PyData.strOk
  simp only [List.all_toArray, List.all_map, List.all_eq_true, Function.comp, decide_eq_true_eq]
  intro c _
  rcases c.valid with h | h
  · exact Nat.lt_trans h (by decide)
  · exact h.2
theorem sh_str {n : Nat} {s : String} : Sh n (.str (Str.ofString s)) := ⟨str_ok s, by simp [PyData.depth]⟩
theorem shapedS2 {s t : String} : SeqAt.shaped (.tuple [.str (Str.ofString s), .str (Str.ofString t)]) = true := (sh_tup (n := 0) (ds := [.str (Str.ofString s), .str (Str.ofString t)]) (by simp [sh_str])).ok (by decide)
end Lm


/-! zip of a list and a tuple -/
namespace Lm
open PySem PySem.Spec PyProof.Rows L2
/-- a list (true) or a tuple -/
def SqM (K : PySem.W.Frag) (t : Bool) (H : Hp) (a : Addr) (xs : List V) : Prop := match t with
  | true => SqL K H a xs
  | false => SqT K H a xs
def ItM (t : Bool) (h : Heap) (i a : Addr) (k : Nat) : Prop := match t with
  | true => h.IsListIter i a k
  | false => h.IsTupleIter i a k
def OfM (t : Bool) (h : Heap) (a : Addr) (its : Array Value) : Prop := match t with
  | true => h.IsList a its
  | false => h.IsTuple a its
theorem drawsM {prog : Program} {w : World} {A : Around} (t : Bool) (hh : A.handled = none) (it l : Addr) (hne : l ≠ it) (items : Array Value) :
    Draws prog w A it [it, l] items.size (fun i v => items[i]? = some v) (fun i h => ItM t h it l i ∧ OfM t h l items) := by
  cases t
  · exact Draws.tuple hh it l hne items
  · exact Draws.list hh it l hne items
theorem ItM.obj {t : Bool} {h : Heap} {i a : Addr} {k : Nat} (x : ItM t h i a k) : ∃ o, h.get? i = some o ∧ ∀ v, o.data ≠ .cell v := by
  cases t <;> obtain ⟨o, e, _, d⟩ := x <;> exact ⟨o, e, fun v q => by rw [d] at q; cases q⟩
theorem ItM.at {t : Bool} {h h' : Heap} {i a : Addr} {k : Nat} (x : ItM t h i a k) (f : ∀ o, h.get? i = some o → h'.get? i = some o) : ItM t h' i a k := by
  cases t
  · exact Heap.IsTupleIter.at x f
  · exact Heap.IsListIter.at x f
theorem invM {X : Cx} {pins : List (Addr × Obj)} {σ : L2.St} {H : Hp} {s : Shared} {t : Bool} {a : Addr} {xs : List V} (I : Inv X pins σ H s) (h : SqM X.K t H a xs) : ∃ its : List Value, Vals xs its ∧ OfM t s.heap a its.toArray ∧ a < s.heap.objs.size := by
  cases t
  · obtain ⟨its, rv, p, _⟩ := I.tuple h
    exact ⟨its, rv, p, let ⟨_, w, _⟩ := p; Heap.lt_size w⟩
  · obtain ⟨its, rv, p, _⟩ := I.list h
    exact ⟨its, rv, p.isList, p.lt⟩
theorem injM {X : Cx} {pins : List (Addr × Obj)} {σ : L2.St} {H : Hp} {s : Shared} {t : Bool} {a : Addr} {xs ys : List V} (I : Inv X pins σ H s) (h : SqM X.K t H a xs) (h' : SqM X.K t H a ys) : xs = ys := by
  cases t
  · exact I.tuple_inj h h'
  · exact I.list_inj h h'
theorem letGo_zipX {prog : Program} {w : World} {A : Around} {E : Value → Shared → Prop} {s : Shared} {elts : List Expr} {x1 : Nat} {pos : Pos} {z TI TO T : Addr} {x' : Value} {b' : Bool} {Q : Unit → Shared → Prop} (hz : IsZipX s.heap z TI TO x' b') (h0 : Q () s)
    (h1 : ∀ h', IsZipX h' z TI TO .none b' → Heap.SameBut z s.heap h' → Q () { s with heap := h' }) : wpAny (model prog w) A (letOwnedTupleGo (.Tuple elts x1 pos) (.ref z) (.ref T)) Q E s := by
  unfold letOwnedTupleGo
  refine wpAny_bind (wpAny_load hz ?_)
  show wpAny _ _ (if (["enumerate", "zip", "dict_itemiterator", "dict_reverseitemiterator", "odict_iterator", "itertools.zip_longest", "itertools.pairwise"].contains "zip" &&
      (#[x', .bool b', .bool false, .ref TI, .ref TO] : Array Value)[0]? == some (rawInt T)) = true then _ else _) Q E s
  split
  · refine wpAny_bind (wpAny_rule ?_)
    show wpAny _ _ (setField (.ref z) 0 .none) Q E s
    exact wpAny_setField_rec hz (by simp) fun h' hz' hs' => h1 h' hz' hs'
  · exact wpAny_pure h0
theorem pyIter_zipX {prog : Program} {w : World} {A : Around} {E : Value → Shared → Prop} {s : Shared} {z TI TO : Addr} {x : Value} {b : Bool} {Q : Value → Shared → Prop} (hz : IsZipX s.heap z TI TO x b) (h : Q (.ref z) s) : wpAny (model prog w) A (pyIter (.ref z)) Q E s := by
  have hT : s.TypeIs (.ref z) "zip" := ⟨_, hz, rfl⟩
  refine wpAny_pyIter_slot hT F.slot_zip_iter (wpAny_call_entry F.slot_zip_iter hT F.entry_zip_iter ?_ (F.args_zip_iter_1 _))
  show wpAny _ _ (ret (.ref z)) _ _ s
  exact wpAny_pure ⟨_, rfl, "zip", _, hT, F.slot_zip_next.lookup, h⟩
def ItzM (K : PySem.W.Frag) (t1 t2 : Bool) (a b : Addr) : It where
  go := fun i H => ∃ (xs ys : List V) (x y : V), SqM K t1 H a xs ∧ SqM K t2 H b ys ∧ xs[i]? = some x ∧ ys[i]? = some y
  yld := fun i H v H' => ∃ T x y, v = .ref T ∧ H T = none ∧ H' = upd H T (.tup [x, y]) ∧ (∀ xs, SqM K t1 H a xs → xs[i]? = some x) ∧ ∀ ys, SqM K t2 H b ys → ys[i]? = some y
  stop := fun i H => ∃ xs : List V, SqM K t1 H a xs ∧ xs.length = i
theorem turnM {P : Program} {w : World} {K : PySem.W.Frag} {elts : List Expr} {kk : Nat} {tpos : Pos} {t1 t2 : Bool} {a b z TI TO i1 i2 : Addr} (S : ZipSep2 z TI TO i1 i2 [i1, a] [i2, b]) (ha : a ≠ i1) (hb : b ≠ i2) :
    Turn P w K (.Tuple elts kk tpos) (ItzM K t1 t2 a b) [z, TI, TO, i1, i2] z fun i h => (∃ x bb, IsZipX h z TI TO x bb ∧ (x = .none ∨ ∃ T : Addr, x = rawInt T)) ∧ IsTupOf2 h TI (.ref i1) (.ref i2) ∧ (∃ a1 a2, IsTupOf2 h TO a1 a2) ∧ ItM t1 h i1 a i ∧ ItM t2 h i2 b i where
  mem := List.mem_cons_self
  obj := by
    rintro i h ⟨⟨x, bb, hz, _⟩, hTI, ⟨a1, a2, hTO⟩, h1, h2⟩ c hc
    have e' : c = z ∨ c = TI ∨ c = TO ∨ c = i1 ∨ c = i2 := by simpa using hc
    rcases e' with q | q | q | q | q
    · rw [q]; exact ⟨_, hz, fun v q => nomatch q⟩
    · rw [q]; exact ⟨_, hTI, fun v q => nomatch q⟩
    · rw [q]; exact ⟨_, hTO, fun v q => nomatch q⟩
    · rw [q]; exact h1.obj
    · rw [q]; exact h2.obj
  keep := by
    rintro i h h' ⟨⟨x, bb, hz, hx⟩, hTI, ⟨a1, a2, hTO⟩, h1, h2⟩ k
    exact ⟨⟨x, bb, k z (by simp) _ hz, hx⟩, k TI (by simp) _ hTI, ⟨a1, a2, k TO (by simp) _ hTO⟩, h1.at fun o q => k i1 (by simp) o q, h2.at fun o q => k i2 (by simp) o q⟩
  item := by
    intro X hP hw hK hc i pins s σ H E I hf ⟨⟨x0, bb, hz, hx0⟩, hTI, ⟨a1, a2, hTO⟩, h1, h2⟩ ⟨xs, ys, x, y, hqx, hqy, hx, hy⟩
    subst hP hw hK
    obtain ⟨its, rv, p, _⟩ := invM I hqx
    obtain ⟨its2, rv2, p2, _⟩ := invM I hqy
    obtain ⟨u, hu, ru⟩ := rv.get hx
    obtain ⟨u2, hu2, ru2⟩ := rv2.get hy
    have lt1 : i < its.toArray.size := by rw [List.size_toArray]; exact (List.getElem?_eq_some_iff.mp hu).1
    have lt2 : i < its2.toArray.size := by rw [List.size_toArray]; exact (List.getElem?_eq_some_iff.mp hu2).1
    have hh : X.A.in1.handled = none := I.ok.hd hc
    have hzl : z < s.heap.objs.size := Heap.lt_size hz
    refine next_zip hz fun E' => zipX_item S (drawsM t1 hh i1 a ha its.toArray) (drawsM t2 hh i2 b hb its2.toArray) hz hx0 hTI hTO ⟨h1, p⟩ ⟨h2, p2⟩ lt1 lt2 fun v1 v2 g1 tk x' b' hv1 hv2 hz' hx' hTO' s1' s2' hT hsz hk => ?_
    have q1 : v1 = u := by
      have : its[i]? = some v1 := by simpa using hv1
      rw [hu] at this
      exact (Option.some.inj this).symm
    have q2 : v2 = u2 := by
      have : its2[i]? = some v2 := by simpa using hv2
      rw [hu2] at this
      exact (Option.some.inj this).symm
    subst q1 q2
    have frT : H s.heap.objs.size = none := I.hok.fresh (Nat.le_refl _)
    have hlt : ∀ c ∈ [z, TI, TO, i1, i2], c < s.heap.objs.size := fun c hc => by
      have e' : c = z ∨ c = TI ∨ c = TO ∨ c = i1 ∨ c = i2 := by simpa using hc
      rcases e' with q | q | q | q | q
      · rw [q]; exact hzl
      · rw [q]; exact Heap.lt_size hTI
      · rw [q]; exact Heap.lt_size hTO
      · rw [q]; obtain ⟨_, w1, _⟩ := h1.obj; exact Heap.lt_size w1
      · rw [q]; obtain ⟨_, w1, _⟩ := h2.obj; exact Heap.lt_size w1
    have zi1 : i1 ≠ z := fun e => S.zf1 (by rw [← e]; exact S.mem1)
    have zi2 : i2 ≠ z := fun e => S.zf2 (by rw [← e]; exact S.mem2)
    have fin : ∀ (h'' : Heap) (x'' : Value), IsZipX h'' z TI TO x'' b' → (x'' = .none ∨ ∃ T : Addr, x'' = rawInt T) → Heap.SameBut z g1 h'' → ∃ xv H', Inv X pins σ H' { s with heap := h'', toks := tk } ∧ RelV xv (.ref s.heap.objs.size) ∧ (ItzM X.K t1 t2 a b).yld i H xv H' ∧ ((∃ x bb, IsZipX h'' z TI TO x bb ∧ (x = .none ∨ ∃ T : Addr, x = rawInt T)) ∧ IsTupOf2 h'' TI (.ref i1) (.ref i2) ∧ (∃ a1 a2, IsTupOf2 h'' TO a1 a2) ∧ ItM t1 h'' i1 a (i + 1) ∧ ItM t2 h'' i2 b (i + 1)) ∧ ∀ c ∈ [z, TI, TO, i1, i2], H' c = none := fun h'' x'' hz'' hx'' sb => by
      have hT2 : h''.get? s.heap.objs.size = some { cls := .type "tuple", data := .seq #[v1, v2] } := (sb.2 _ (Nat.ne_of_gt hzl)).trans hT
      have I1 : Inv X pins σ (upd H s.heap.objs.size (.tup [x, y])) { s with heap := h'', toks := tk } :=
        I.turnedNew (t' := tk) (ch := [z, TI, TO, i1, i2]) (fun c o hb q => (sb.2 c (fun q' => hb (by simp [q']))).trans (hk c o (fun q' => hb (by simp [q'])) (fun q' => hb (by simp [q'])) (fun q' => hb (by simp [q'])) (fun q' => hb (by simp [q'])) q)) hf (Nat.le_refl _)
          ⟨by show 2 ≤ sizeLine; decide, [v1, v2], .cons ru (.cons ru2 .nil), ⟨_, hT2, rfl, _, rfl⟩⟩
      refine ⟨.ref s.heap.objs.size, _, I1, rfl, ⟨_, x, y, rfl, frT, rfl, fun l hl => by rw [injM I hl hqx]; exact hx, fun l hl => by rw [injM I hl hqy]; exact hy⟩, ⟨⟨x'', b', hz'', hx''⟩, ?_, ?_, s1'.1.at fun o q => (sb.2 _ zi1).trans q, s2'.1.at fun o q => (sb.2 _ zi2).trans q⟩, fun c hc => ?_⟩
      · exact (sb.2 _ S.TIz).trans (hk _ _ S.TIz S.TITO S.TIi1 S.TIi2 hTI)
      · obtain ⟨c1, c2, q⟩ := hTO'
        exact ⟨c1, c2, (sb.2 _ S.TOz).trans q⟩
      · rw [upd_ne (Nat.ne_of_lt (hlt c hc))]
        exact (hf c hc).1
    exact ⟨_, rfl, letGo_zipX (s := { s with heap := g1, toks := tk }) hz' (fin g1 x' hz' hx' ⟨rfl, fun _ _ => rfl⟩) fun h'' hz'' sb => fin h'' .none hz'' (.inl rfl) sb⟩
  done := by
    intro X hP hw hK hc i pins s σ H E I hf ⟨⟨x0, bb, hz, hx0⟩, hTI, ⟨a1, a2, hTO⟩, h1, h2⟩ ⟨xs, hqx, hx⟩
    subst hP hw hK
    obtain ⟨its, rv, p, _⟩ := invM I hqx
    have hl : its.toArray.size = i := by rw [List.size_toArray, ← rv.length]; exact hx
    refine pyNext_zip_end (n1 := its.toArray.size) S (fun A' hh' => drawsM t1 hh' i1 a ha its.toArray) (I.ok.hd hc) hz hx0 hTI ⟨by rw [hl]; exact h1, p⟩ fun h' hk => ⟨rfl, I.turnedL (t' := s.toks) (ch := [z, TI, TO, i1, i2]) (fun c o hb q => hk c o (fun q' => hb (by simp [q'])) (fun q' => hb (by simp [q'])) q) hf⟩
  self := fun A i s Q E ⟨⟨_, _, hz, _⟩, _⟩ h => pyIter_zipX hz h
def zM1 (t1 : Bool) (h : Heap) (l1 : Addr) : Heap := h.push { cls := .type (if t1 then "list_iterator" else "tuple_iterator"), data := .fields #[.ref l1, .int 0 0] }
def zM2 (t1 t2 : Bool) (h : Heap) (l1 l2 : Addr) : Heap := (zM1 t1 h l1).push { cls := .type (if t2 then "list_iterator" else "tuple_iterator"), data := .fields #[.ref l2, .int 0 0] }
def zM3 (t1 t2 : Bool) (h : Heap) (l1 l2 : Addr) : Heap := (zM2 t1 t2 h l1 l2).push { cls := .type "tuple", data := .seq #[.ref h.objs.size, .ref (zM1 t1 h l1).objs.size] }
def zM4 (t1 t2 : Bool) (h : Heap) (l1 l2 : Addr) : Heap := (zM3 t1 t2 h l1 l2).push { cls := .type "tuple", data := .seq #[.none, .none] }
def zM5 (t1 t2 : Bool) (h : Heap) (l1 l2 : Addr) : Heap := (zM4 t1 t2 h l1 l2).push { cls := .type "zip", data := .fields #[.none, .bool false, .bool false, .ref (zM2 t1 t2 h l1 l2).objs.size, .ref (zM3 t1 t2 h l1 l2).objs.size] }
theorem meetsM (t1 t2 : Bool) (l1 l2 : Addr) (xs ys : Array Value) :
    Meets (Builtin.«zip.__new__» ⟨[.type "zip", .ref l1, .ref l2], []⟩) (fun _ R s => OfM t1 s.heap l1 xs ∧ OfM t2 s.heap l2 ys ∧
      R (.ok (.ret (.ref (zM4 t1 t2 s.heap l1 l2).objs.size))) { s with heap := zM5 t1 t2 s.heap l1 l2 }) :=
  .of_wp fun prog w A R s h => by
    obtain ⟨hp, g, d, tk, os⟩ := s; obtain ⟨hl1, hl2, h⟩ := h
    have hsub := sub_zip
    cases t1 <;> cases t2
    · have hL1 : Heap.IsTuple (Shared.heap ⟨hp, g, d, tk, os⟩) l1 xs := hl1
      have hL2 : Heap.IsTuple (Shared.heap ⟨hp.push { cls := .type "tuple_iterator", data := .fields #[.ref l1, .int 0 0] }, g, d, tk, os⟩) l2 ys := Heap.IsTuple.push hl2 _
      wp_walk using wpAny_pyIter_tuple hL1, wpAny_pyIter_tuple hL2
      exact ⟨_, rfl, h⟩
    · have hL1 : Heap.IsTuple (Shared.heap ⟨hp, g, d, tk, os⟩) l1 xs := hl1
      have hL2 : Heap.IsList (Shared.heap ⟨hp.push { cls := .type "tuple_iterator", data := .fields #[.ref l1, .int 0 0] }, g, d, tk, os⟩) l2 ys := Heap.IsList.push hl2 _
      wp_walk using wpAny_pyIter_tuple hL1, wpAny_pyIter_list hL2
      exact ⟨_, rfl, h⟩
    · have hL1 : Heap.IsList (Shared.heap ⟨hp, g, d, tk, os⟩) l1 xs := hl1
      have hL2 : Heap.IsTuple (Shared.heap ⟨hp.push { cls := .type "list_iterator", data := .fields #[.ref l1, .int 0 0] }, g, d, tk, os⟩) l2 ys := Heap.IsTuple.push hl2 _
      wp_walk using wpAny_pyIter_list hL1, wpAny_pyIter_tuple hL2
      exact ⟨_, rfl, h⟩
    · have hL1 : Heap.IsList (Shared.heap ⟨hp, g, d, tk, os⟩) l1 xs := hl1
      have hL2 : Heap.IsList (Shared.heap ⟨hp.push { cls := .type "list_iterator", data := .fields #[.ref l1, .int 0 0] }, g, d, tk, os⟩) l2 ys := Heap.IsList.push hl2 _
      wp_walk using wpAny_pyIter_list hL1, wpAny_pyIter_list hL2
      exact ⟨_, rfl, h⟩
theorem callM {prog : Program} {w : World} {A : Around} {E : Value → Shared → Prop} {s : Shared} {t1 t2 : Bool} {l1 l2 : Addr} {xs ys : Array Value} {Q : Value → Shared → Prop} (hl1 : OfM t1 s.heap l1 xs) (hl2 : OfM t2 s.heap l2 ys)
    (h : ∀ h', IsZip h' (s.heap.objs.size + 4) (s.heap.objs.size + 2) (s.heap.objs.size + 3) .none → IsTupOf2 h' (s.heap.objs.size + 2) (.ref s.heap.objs.size) (.ref (s.heap.objs.size + 1)) →
      IsTupOf2 h' (s.heap.objs.size + 3) .none .none → ItM t1 h' s.heap.objs.size l1 0 → ItM t2 h' (s.heap.objs.size + 1) l2 0 →
      (∀ c o, s.heap.get? c = some o → h'.get? c = some o) → Q (.ref (s.heap.objs.size + 4)) { s with heap := h' }) :
    wpAny (model prog w) A (call (.type "zip") [.ref l1, .ref l2]) Q E s := by
  refine callType_new F.called_zip (by decide) (F.typeCall_zip_2 _ _) (F.newCall_zip_2 _ _) (fun obj => F.args_object_init_3 obj _ _) F.entry_zip_new
    (meetsM t1 t2 l1 l2 xs ys) ⟨hl1, hl2, ?_⟩
  have z1 : (zM1 t1 s.heap l1).objs.size = s.heap.objs.size + 1 := Heap.size_push ..
  have z2 : (zM2 t1 t2 s.heap l1 l2).objs.size = s.heap.objs.size + 2 := (Heap.size_push ..).trans (by rw [z1])
  have z3 : (zM3 t1 t2 s.heap l1 l2).objs.size = s.heap.objs.size + 3 := (Heap.size_push ..).trans (by rw [z2])
  have z4 : (zM4 t1 t2 s.heap l1 l2).objs.size = s.heap.objs.size + 4 := (Heap.size_push ..).trans (by rw [z3])
  have g5 : (zM5 t1 t2 s.heap l1 l2).get? (zM4 t1 t2 s.heap l1 l2).objs.size = some _ := Heap.get?_push_size _ rfl
  have g4 : (zM5 t1 t2 s.heap l1 l2).get? (zM3 t1 t2 s.heap l1 l2).objs.size = some _ := Heap.get?_push_of_some _ (Heap.get?_push_size _ rfl)
  have g3 : (zM5 t1 t2 s.heap l1 l2).get? (zM2 t1 t2 s.heap l1 l2).objs.size = some _ := Heap.get?_push_of_some _ (Heap.get?_push_of_some _ (Heap.get?_push_size _ rfl))
  have g2 : (zM5 t1 t2 s.heap l1 l2).get? (zM1 t1 s.heap l1).objs.size = some _ := Heap.get?_push_of_some _ (Heap.get?_push_of_some _ (Heap.get?_push_of_some _ (Heap.get?_push_size _ rfl)))
  have g1 : (zM5 t1 t2 s.heap l1 l2).get? s.heap.objs.size = some _ := Heap.get?_push_of_some _ (Heap.get?_push_of_some _ (Heap.get?_push_of_some _ (Heap.get?_push_of_some _ (Heap.get?_push_size _ rfl))))
  show _ ∧ _
  rw [z2, z3, z4] at g5
  rw [z1, z2] at g3
  rw [z3] at g4
  rw [z1] at g2
  rw [z4]
  refine ⟨⟨_, g5, rfl⟩, h _ g5 g3 g4 ?_ ?_ fun c o x =>
    Heap.get?_push_of_some _ (Heap.get?_push_of_some _ (Heap.get?_push_of_some _ (Heap.get?_push_of_some _ (Heap.get?_push_of_some _ x))))⟩
  · cases t1 <;> exact ⟨_, g1, rfl, rfl⟩
  · cases t2 <;> exact ⟨_, g2, rfl, rfl⟩
def iZipM (K : PySem.W.Frag) (t1 t2 : Bool) (ta : TA) : TI := fun σ H R => ta σ H fun vs H1 => ∃ a b xs ys, vs = [.ref a, .ref b] ∧ SqM K t1 H1 a xs ∧ SqM K t2 H1 b ys ∧ R (ItzM K t1 t2 a b) H1
theorem pi_zipM {X : Cx} {t1 t2 : Bool} {e e2 : Expr} {ta : TA} {p pos tpos : Pos} {elts : List Expr} {kk : Nat} (hg : Gl X "zip") (hm : X.mg "zip" = none) (ha : PA X [e, e2] ta)
    (hs : starEach [e, e2] X.env = (false, eval e X.env) :: starEach [e2] X.env := by rfl) (hpl : (backTo pos (starEach [e2] X.env)).any (·.1) = false := by rfl) :
    PI X (.Tuple elts kk tpos) (.Call (.Name "zip" p) [e, e2] [] pos) (iZipM X.K t1 t2 ta) := by
  refine ⟨fun pins s σ H R I h => ?_⟩
  refine Call_ (ld_blt I hg hm PyProof.Rows.boot_zip (PyProof.Rows.callWith_type1 (thn (ha.run pos pins s σ H _ I h) fun us s1 ⟨vs, H1, I1, r1, q1⟩ => ?_) hs hpl))
  obtain ⟨a, b, xs, ys, ex, hqx, hqy, q⟩ := q1
  subst ex
  cases r1 with
  | cons r rr =>
    cases rr with
    | cons r' rr =>
      cases rr
      cases r
      cases r'
      have fresh5 : ∀ c, c ∈ [s1.heap.objs.size + 4, s1.heap.objs.size + 2, s1.heap.objs.size + 3, s1.heap.objs.size, s1.heap.objs.size + 1] → FpOk X pins H1 c := fun c hcm => by
        have e' : c = s1.heap.objs.size + 4 ∨ c = s1.heap.objs.size + 2 ∨ c = s1.heap.objs.size + 3 ∨ c = s1.heap.objs.size ∨ c = s1.heap.objs.size + 1 := by simpa using hcm
        have hle : s1.heap.objs.size ≤ c := by
          rcases e' with z | z | z | z | z
          · rw [z]; exact Nat.le_add_right _ _
          · rw [z]; exact Nat.le_add_right _ _
          · rw [z]; exact Nat.le_add_right _ _
          · rw [z]; exact Nat.le_refl _
          · rw [z]; exact Nat.le_add_right _ _
        exact I1.fpOk hle (I1.hok.fresh hle)
      obtain ⟨its, rv, p1, la⟩ := invM I1 hqx
      obtain ⟨its2, rv2, p2, lb⟩ := invM I1 hqy
      refine callM p1 p2 fun h' hz hTI hTO h1 h2 hk => wpAny_pyIter_zip hz ?_
      have I2 : Inv X pins σ H1 { s1 with heap := h' } := I1.kept (t' := s1.toks) hk
      exact ⟨s1.heap.objs.size + 4, [s1.heap.objs.size + 4, s1.heap.objs.size + 2, s1.heap.objs.size + 3, s1.heap.objs.size, s1.heap.objs.size + 1], _, _, H1, rfl, I2,
        turnM (zip_sep2 (N := s1.heap.objs.size) (fp1 := [a]) (fp2 := [b]) (fun c hc => by cases List.mem_singleton.mp hc; exact la) (fun c hc => by cases List.mem_singleton.mp hc; exact lb)) (Nat.ne_of_lt la) (Nat.ne_of_lt (Nat.lt_succ_of_lt lb)),
        ⟨⟨_, _, hz, .inl rfl⟩, hTI, ⟨_, _, hTO⟩, h1, h2⟩, fresh5, q⟩
end Lm


/-! walks over zip of a list and a tuple; pairs that are drawn; forbidden pairs, pins, menus, bounds by levels -/
namespace Lm
open PySem PySem.Spec PyProof.Rows L2
section
variable {X : Cx} {K : PySem.W.Frag} (hK : X.K = K)
include hK
theorem k_zipM {t1 t2 : Bool} {e e2 : Expr} {ta : TA} {p pos tpos : Pos} {elts : List Expr} {kk : Nat} (hg : Gl X "zip") (hm : X.mg "zip" = none) (ha : PA X [e, e2] ta)
    (hs : starEach [e, e2] X.env = (false, eval e X.env) :: starEach [e2] X.env := by rfl) (hpl : (backTo pos (starEach [e2] X.env)).any (·.1) = false := by rfl) :
    PI X (.Tuple elts kk tpos) (.Call (.Name "zip" p) [e, e2] [] pos) (iZipM K t1 t2 ta) := hK ▸ pi_zipM hg hm ha hs hpl
end
section
variable {c : Ct} {H H' H0 H1 H2 H3 : Hp} {O : List Addr} {Γ Γ' Γ1 : List (Option Rs)}
variable {te ta tb tx ty : TE} {k ka kb kc : Kd} {d x y z : PyData} {ds es : List PyData}
theorem walk_zipM {K : PySem.W.Frag} {t1 t2 : Bool} {p q : Addr} {xs ys : List V} {n : Nat} (hn : n = xs.length) (hl : xs.length = ys.length) : Walk (ItzM K t1 t2 p q) n (fun H => SqM K t1 H p xs ∧ SqM K t2 H q ys) (YPair (fun i => xs[i]?) (fun i => ys[i]?)) where
  goes := fun i _ hi w => ⟨xs, ys, xs[i]'(by omega), ys[i]'(by omega), w.1, w.2, List.getElem?_eq_getElem (by omega), List.getElem?_eq_getElem (by omega)⟩
  stops := fun _ w => ⟨xs, w.1, hn.symm⟩
  yields := fun i H v H' _ w ⟨T, x, z, h1, h2, h3, h4, h5⟩ => ⟨T, x, z, h1, h2, h3, h4 xs w.1, h5 ys w.2⟩
theorem i_zipTL (h1 : Ev c ta Γ .v (.tuple ds)) (h2 : Ev c tb Γ kb (.list es)) (n1 : kb ≠ .b) (hl : ds.length = es.length) : EvI c (iZipM c.K false true (tCons ta (tCons tb tNil))) Γ true (zipD ds es) := fun H0 O H σ e R q =>
  h1 H0 O H σ e _ fun v1 H1 r1 s1 => h2 H0 O H1 σ (e.on r1) _ fun v2 H2 r2 s2 => by
    have r : Rr c H H2 := r1.tr r2
    have b1 : Bo c (mns H2 O) v1 (.tuple ds) := Res.on (k := .v) e r1 r2 s1
    have b2 : Bo c (mns H2 O) v2 (.list es) := Res.frozen (e.on r1) r2 s2 n1
    obtain ⟨p, xs, rfl, sl, al⟩ := b1.tup'
    obtain ⟨p2, ys, rfl, ok2, sl2, al2⟩ := b2.lst'
    have lx : xs.length = ys.length := by rw [al.len, al2.len]; exact hl
    refine ⟨p, p2, xs, ys, rfl, (sqT_same mns_same sl).sq, mns_same.seq sl2, q _ H2 r ⟨(e.on r).j, ?_⟩⟩
    have hn : (zipD ds es).length = xs.length := by rw [al.len]; simp [zipD, hl]
    refine (walk_zipM hn lx).mono (fun H h => ⟨(h.tup (e.on r).j sl).sq, h.lst ok2 sl2⟩) fun i H v H' hi g w => ?_
    obtain ⟨T, u1, u2, rfl, hT, rfl, g1, g2⟩ := w
    obtain ⟨d1, hd1, bd1⟩ := al.get g1
    obtain ⟨d2, hd2, bd2⟩ := al2.get g2
    have sm : Same H (upd H T (.tup [u1, u2])) := fun b o z => by rw [upd_ne (ne_of_none z hT)]; exact z
    refine ⟨sm, .t [.d d1, .d d2], ?_, .tup (.inl (.inl upd_same)) (.cons (.leaf (.inr ⟨rfl, bd1⟩)) (.cons (.leaf (.inr ⟨rfl, bd2⟩)) .nil))⟩
    have : (ds.zip es)[i]? = some (d1, d2) := by rw [List.getElem?_zip_eq_some]; exact ⟨hd1, hd2⟩
    simp [zipD, this]
end
/-! ### mathematics -/
/-- pairs of buckets and variants, ascending -/
structure Prd (F : List (List Int)) (v b : Nat) : Prop where
  row : ∀ r ∈ F, ∃ x y : Nat, r = [(x : Int), (y : Int)] ∧ x < b ∧ y < v
  asc : F.Pairwise fun a b => TS.code 1000 a < TS.code 1000 b
  len : F.length ≤ 36
theorem Prd.filter {F : List (List Int)} {v b : Nat} (h : Prd F v b) (p : List Int → Bool) : Prd (F.filter p) v b :=
  ⟨fun r hr => h.row r (List.mem_filter.mp hr).1, h.asc.filter _, Nat.le_trans (List.length_filter_le _ _) h.len⟩
/-- pins: of different buckets -/
structure Pin (P : List (List Int)) (v b : Nat) : Prop extends Prd P v b where
  fst : P.Pairwise fun p q => p.getD 0 0 < q.getD 0 0
def psL (as : List Int) (v : Int) (b : Nat) (C : List (List Int)) : List (List Int) := (allL v b).filter fun f => decide (countsI f v = as) && ((List.range b).map fun k => decide (f.getD k 0 ∈ C.getD k [])).all id
theorem mem_psL {as f : List Int} {v : Int} {b : Nat} {C : List (List Int)} (hv : 0 ≤ v) : f ∈ psL as v b C ↔ f.length = b ∧ (∀ x ∈ f, 0 ≤ x ∧ x < v) ∧ countsI f v = as ∧ ∀ k < b, f.getD k 0 ∈ C.getD k [] := by
  unfold psL
  rw [List.mem_filter, mem_allL hv, Bool.and_eq_true, List.all_map, List.all_eq_true]
  simp only [decide_eq_true_eq, List.mem_range, Function.comp, id]
  constructor
  · rintro ⟨⟨h1, h2⟩, h3, h4⟩; exact ⟨h1, h2, h3, h4⟩
  · rintro ⟨h1, h2, h3, h4⟩; exact ⟨⟨h1, h2⟩, h3, h4⟩
def wrtI (h : Int) (ls : List Int) (y : Int) : Int := (if y = h then 1 else 0) - ls.getD y.toNat 0
def gw (own : List Int) (h : Int) (ls : List Int) : Int := mxL (own.map (wrtI h ls))
def gwS (C : List (List Int)) (f ls : List Int) : Int := ((C.zip f).map fun p => gw p.1 p.2 ls).sum
def mulI (a b : Int) : Int := a * b
theorem gw_ge {own ls : List Int} {h y : Int} (hy : y ∈ own) : wrtI h ls y ≤ gw own h ls := mxL_le _ (List.mem_map_of_mem hy)
/-- no row keeps more than the bound, less the levels it takes -/
theorem kept_le {ls : List Int} : ∀ {C : List (List Int)} {f r : List Int}, C.length = f.length → r.length = f.length → (∀ k < r.length, r.getD k 0 ∈ C.getD k []) →
    (f.length : Int) - zs ne1 f r ≤ gwS C f ls + (r.map fun y => ls.getD y.toNat 0).sum
  | [], [], [], _, _, _ => by simp [gwS, zs]
  | own :: C, h :: f, y :: r, h1, h2, hm => by
    have ih := kept_le (ls := ls) (C := C) (f := f) (r := r) (by simpa using h1) (by simpa using h2) fun k hk => by have := hm (k + 1) (by simpa using hk); simpa using this
    have m0 : y ∈ own := by have := hm 0 (by simp); simpa using this
    have g := gw_ge (ls := ls) (h := h) m0
    have e : gwS (own :: C) (h :: f) ls = gw own h ls + gwS C f ls := by simp [gwS]
    have en : ne1 h y = if h = y then 0 else 1 := rfl
    rw [zs_cons, e, en, List.map_cons, List.sum_cons, List.length_cons]
    unfold wrtI at g
    by_cases q : h = y
    · rw [if_pos q.symm] at g
      rw [if_pos q]
      omega
    · rw [if_neg (fun z => q z.symm)] at g
      rw [if_neg q]
      omega
  | [], _ :: _, _, h, _, _ => by simp at h
  | _ :: _, [], _, h, _, _ => by simp at h
  | _, [], _ :: _, _, h, _ => by simp at h
  | _, _ :: _, [], _, h, _ => by simp at h
theorem nil_sum {α : Type} : ∀ l : List α, (l.map fun _ => (0 : Int)).sum = 0
  | [] => rfl
  | _ :: l => by rw [List.map_cons, List.sum_cons, nil_sum l]; rfl
theorem pick_sum {g : Nat → Int} {x : Nat} : ∀ n : Nat, x < n → ((List.range n).map fun k => if k = x then g k else 0).sum = g x
  | 0, h => by omega
  | n + 1, h => by
    rw [List.range_succ, List.map_append, List.sum_append, List.map_singleton, List.sum_singleton]
    by_cases e : x = n
    · subst e
      have : ((List.range x).map fun k => if k = x then g k else 0) = (List.range x).map fun _ => (0 : Int) := List.map_congr_left fun k hk => if_neg (by have := List.mem_range.mp hk; omega)
      rw [this, if_pos rfl, nil_sum]
      omega
    · rw [pick_sum n (by omega), if_neg (fun z => e z.symm)]
      omega
/-- what the levels give in all -/
theorem lev_sum {ls : List Int} {v : Nat} (hl : ls.length = v) : ∀ {r : List Int}, (∀ x ∈ r, 0 ≤ x ∧ x < (v : Int)) → (r.map fun y => ls.getD y.toNat 0).sum = zs mulI (countsI r v) ls
  | [], _ => by
    unfold zs
    rw [countsI_len, Int.toNat_natCast]
    have : ((List.range v).map fun j => mulI ((countsI [] v).getD j 0) (ls.getD j 0)) = (List.range v).map fun _ => (0 : Int) := List.map_congr_left fun j hj => by
      rw [countsI_get (by have := List.mem_range.mp hj; omega)]
      simp [mulI]
    rw [this, nil_sum]
    rfl
  | y :: r, h => by
    have ih := lev_sum hl (r := r) fun x hx => h x (by simp [hx])
    obtain ⟨y0, y1⟩ := h y (by simp)
    obtain ⟨Y, rfl⟩ := Int.eq_ofNat_of_zero_le y0
    rw [List.map_cons, List.sum_cons, ih, Int.toNat_natCast]
    unfold zs
    rw [countsI_len, countsI_len, Int.toNat_natCast]
    have e : ∀ j ∈ List.range v, mulI ((countsI ((Y : Int) :: r) v).getD j 0) (ls.getD j 0) = (if j = Y then ls.getD j 0 else 0) + mulI ((countsI r v).getD j 0) (ls.getD j 0) := fun j hj => by
      have hj' : (j : Int) < v := by have := List.mem_range.mp hj; omega
      rw [countsI_get hj', countsI_get hj', List.count_cons]
      unfold mulI
      by_cases q : j = Y
      · subst q
        simp [Int.add_mul]
        omega
      · have : ¬ ((Y : Int) = (j : Int)) := by omega
        simp [q, this]
    rw [List.map_congr_left e]
    have add : ∀ (f g : Nat → Int) (l : List Nat), (l.map fun i => f i + g i).sum = (l.map f).sum + (l.map g).sum := fun f g l => by
      induction l with
      | nil => rfl
      | cons a l ih => rw [List.map_cons, List.sum_cons, List.map_cons, List.sum_cons, List.map_cons, List.sum_cons, ih]; omega
    rw [add, pick_sum (g := fun j => ls.getD j 0) v (by omega)]
/-- no possible assignment keeps more than the bound -/
theorem weak {as f r ls : List Int} {v b : Nat} {C : List (List Int)} (hC : C.length = b) (hf : f.length = b) (hl : ls.length = v) (hr : r ∈ psL as v b C) : [] ∉ C ∧ (b : Int) - zs ne1 f r ≤ zs mulI as ls + gwS C f ls := by
  obtain ⟨h1, h2, h3, h4⟩ := (mem_psL (by omega)).mp hr
  refine ⟨fun z => ?_, ?_⟩
  · obtain ⟨k, hk, e⟩ := List.getElem_of_mem z
    have := h4 k (by omega)
    rw [List.getD_eq_getElem?_getD, List.getD_eq_getElem?_getD, List.getElem?_eq_getElem hk, e] at this
    simp at this
  · have := kept_le (ls := ls) (C := C) (f := f) (r := r) (by omega) (by omega) fun k hk => h4 k (by omega)
    rw [lev_sum hl h2, h3] at this
    omega
end Lm


/-! forbidden pairs and pins that are drawn; promises -/
namespace Lm
open PySem PySem.Spec PyProof.Rows L2
structure PrdN (F : List (List Int)) (v n m : Nat) : Prop where
  row : ∀ r ∈ F, ∃ x y : Nat, r = [(x : Int), (y : Int)] ∧ y < v ∧ x * 1000 + y < n * 1000 + m
  asc : F.Pairwise fun a b => TS.code 1000 a < TS.code 1000 b
  len : F.length ≤ n * v + m
theorem PrdN.nil {v : Nat} : PrdN [] v 0 0 := ⟨by simp, List.Pairwise.nil, by simp⟩
structure PinN (P : List (List Int)) (v n : Nat) : Prop where
  row : ∀ r ∈ P, ∃ x y : Nat, r = [(x : Int), (y : Int)] ∧ x < n ∧ y < v
  fst : P.Pairwise fun p q => p.getD 0 0 < q.getD 0 0
  len : P.length ≤ n
theorem PinN.nil {v : Nat} : PinN [] v 0 := ⟨by simp, List.Pairwise.nil, by simp⟩
theorem Pin.nil {v b : Nat} : Pin [] v b := { row := by simp, fst := List.Pairwise.nil, len := by simp, asc := List.Pairwise.nil }
structure Exc (as f : List Int) (F P : List (List Int)) (v b : Nat) : Prop where
  v1 : 1 ≤ v
  v5 : v ≤ 5
  b6 : b ≤ 6
  asg : Asg f (v : Int)
  len : f.length = b
  alc : Alc as (v : Int) (b : Int)
  prd : Prd F v b
  pin : Pin P v b
end Lm


/-! lists that stay: displays of anything, put together, subscripts -/
namespace Lm
open PySem PySem.Spec PyProof.Rows L2
def rCatS (K : PySem.W.Frag) : R2 := fun x y H Q => ∃ l b xs zs, x = .ref l ∧ y = .ref b ∧ SqL K H l xs ∧ SqL K H b zs ∧ xs.length + zs.length ≤ sizeLine ∧ ∀ p, H p = none → Q (.ref p) (upd H p (.lst (xs ++ zs)))
theorem op_catS {X : Cx} : OpR X (binaryOp .Add) (rCatS X.K) := by
  intro pins s σ H x y v u Q I rx ry h
  obtain ⟨l, b, xs, zs, rfl, rfl, hH, hB, hz, q⟩ := h
  cases rx
  cases ry
  obtain ⟨its, r, p1, z⟩ := I.list hH
  obtain ⟨its2, r2, p2, z2⟩ := I.list hB
  have l1 := r.length
  have l2 := r2.length
  obtain ⟨⟨cls, dd, data, sl⟩, ho, hc, n, hd⟩ := p1.isList
  obtain ⟨⟨cls2, dd2, data2, sl2⟩, ho2, hc2, n2, hd2⟩ := p2.isList
  simp only at hc hd hc2 hd2
  subst hc hd hc2 hd2
  have ea : its.toArray ++ its2.toArray = (its ++ its2).toArray := by simp
  refine concat_meets ⟨_, ho, rfl⟩ ⟨_, ho2, rfl⟩ noFill_list_add seq_list_add PySem.F.slot_list_add PySem.F.entry_list_add (PySem.F.args_list_add_2 _ _) (list_addW l b its.toArray its2.toArray n n2 dd dd2 sl sl2 (by simp; omega)) ⟨ho, ho2, ?_⟩
  rw [ea]
  exact ⟨.ref _, _, I.lnew (t' := s.toks) (r.append r2) (by rw [List.length_append]; omega), rfl, q _ I.fresh⟩
section
variable {X : Cx} {K : PySem.W.Frag} (hK : X.K = K)
include hK
theorem k_catS : OpR X (binaryOp .Add) (rCatS K) := hK ▸ op_catS
end
section
variable {c : Ct} {Γ : List (Option Rs)} {te ta tb : TE} {tr : TA} {k ka kb : Kd} {d : PyData} {ds es : List PyData}
theorem Ev.frz (h : Ev c te Γ .o d) : Ev c te Γ .v d := fun H0 O H σ e Q q => h H0 O H σ e _ fun v H2 r s => q v H2 r (Res.frozen e r s ko_ne)
/-- a new list of things that stay -/
theorem newV {H0 H H2 : Hp} {O : List Addr} {σ : L2.St} {xs : List V} {p : Addr} (e : Env c H0 O H2 σ Γ) (al : BoAll c (mns H2 O) xs ds) (hp : H2 p = none) : Bo c (mns (upd H2 p (.lst xs)) O) (.ref p) (.list ds) := by
  have sm : Same H2 (upd H2 p (.lst xs)) := fun b o z => by rw [upd_ne (ne_of_none z hp)]; exact z
  have r4 : Rr c H2 (upd H2 p (.lst xs)) := Rr.same sm
  have no := new_notO e hp
  refine .lst (okA.fresh e.jH hp) (.inl ?_) (al.mono e.j (r4.mns e.j e.okO))
  left
  rw [mns_out no]
  exact upd_same
theorem e_lstV (h : EvA c tr Γ true ds) (hl : ds.length ≤ 1000000) : Ev c (tLst tr) Γ .v (.list ds) := fun H0 O H σ e Q q =>
  h H0 O H σ e _ fun vs H1 r s => by
    have s' := BoAll.vm s
    refine ⟨by rw [s'.len]; exact sizeOk hl, fun p hp => q _ _ (r.tr (Rr.same fun b u z => by rw [upd_ne (ne_of_none z hp)]; exact z)) (newV (H := H1) (e.on r) s' hp)⟩
theorem n_ixLV {P : PyData → Prop} {Q : Int → Prop} (ha : Ev c ta Γ .v (.list ds)) (hb : EvN c tb Γ kb (SomeI Q)) (hr : ∀ i, Q i → ∃ d, atI ds i = some d ∧ P d) : EvN c (tOp (rIx c.K) ta tb) Γ .v P := fun H0 O H σ e Q' q =>
  ha H0 O H σ e _ fun v H1 r1 s1 => hb H0 O H1 σ (e.on r1) _ fun u y H2 ⟨i, hi, qi⟩ r2 s2 => by
    obtain ⟨d, he, pd⟩ := hr i qi
    subst hi
    have bv : Bo c (mns H2 O) v (.list ds) := Res.on (k := .v) e r1 r2 s1
    obtain ⟨p, xs, rfl, _, s, al⟩ := bv.lst'
    obtain ⟨x, hx, bx⟩ := atI_bo al he
    exact .inl ⟨p, xs, i, x, rfl, (Res.bo (e.on r1) s2).int', mns_same.seq s, hx, q x d H2 pd (r1.tr r2) bx⟩
end
end Lm


/-! possible assignments: which come first, what is none -/
namespace Lm
open PySem PySem.Spec PyProof.Rows L2
theorem mem_ps {as f : List Int} {v b : Nat} {C : List (List Int)} (al : as.length = v) (hC : C.length = b) (hr : Rng C v) : f ∈ psL as v b C ↔ Fits as C f := by
  rw [mem_psL (by omega), fits_iff (by rw [al]; exact hr), hC]
  have cnt : (countsI f v = as ↔ ∀ x < as.length, (f.count (x : Int) : Int) = as.getD x 0) := by
    constructor
    · intro h x hx
      rw [← h, countsI_get (by omega)]
    · intro h
      apply List.ext_getElem
      · rw [countsI_len]; omega
      · intro i h1 h2
        have e1 : (countsI f v).getD i 0 = (f.count (i : Int) : Int) := countsI_get (by omega)
        rw [h i h2] at e1
        simpa [List.getD_eq_getElem?_getD, h1, h2] using e1
  constructor
  · rintro ⟨h1, h2, h3, h4⟩
    exact ⟨h1, fun i hi => h4 i (by omega), cnt.mp h3⟩
  · rintro ⟨h1, h2, h3⟩
    refine ⟨h1, fun x hx => ?_, cnt.mpr h3, fun k hk => h2 k (by omega)⟩
    obtain ⟨i, hi⟩ := List.getElem?_of_mem hx
    have il := (List.getElem?_eq_some_iff.mp hi).1
    have m := h2 i il
    have fx : f.getD i 0 = x := by rw [List.getD_eq_getElem?_getD, hi]; rfl
    rw [fx] at m
    exact hr _ (gL_mem (by omega)) x m
def NoA (x : PyData) (v b : Nat) : Prop := SmallT x ∧ isAsgB x v b = false
theorem rep_flat {d : PyData} : ∀ n : Nat, (List.replicate n [d]).flatten = List.replicate n d
  | 0 => rfl
  | n + 1 => by rw [List.replicate_succ, List.flatten_cons, rep_flat n]; rfl
def sp_is_assignment_ofX (K : PySem.W.Frag) : Sp := spD K fun ds k d => ∃ (x : PyData) (as : List Int) (v b : Nat), ds = [x, tupD as] ∧ Alc as (v : Int) (b : Int) ∧ 1 ≤ v ∧ v ≤ 5 ∧ b ≤ 20 ∧ k = .v ∧ ((∃ r, x = tupD r ∧ Asg r (v : Int) ∧ r.length = b ∧ d = .bool (decide (countsI r v = as))) ∨ (NoA x v b ∧ d = .bool false))
end Lm


/-! xs[i] -= 1, xs a list of ints -/
namespace Lm
open PySem PySem.Spec PyProof.Rows L2
def rGetL (K : PySem.W.Frag) : V → V → Hp → VK → Prop := fun o i H Q => ∃ (p : Addr) (xs : List V) (m : Nat) (v : V), o = .ref p ∧ i = .int (m : Int) ∧ SqL K H p xs ∧ xs[m]? = some v ∧ Q v H
theorem get_list {X : Cx} : PGet X (rGetL X.K) := by
  intro pins s σ H o i ov iv Q I ro ri h
  obtain ⟨p, xs, m, v, rfl, rfl, hq, hv, q⟩ := h
  cases ro
  obtain ⟨t, rfl⟩ := ri
  obtain ⟨its, r, pl, hz⟩ := I.list hq
  obtain ⟨w, ew, rw'⟩ := r.get hv
  have hn := line63
  have hl := r.length
  have hm : m < xs.length := (List.getElem?_eq_some_iff.mp hv).1
  exact wpAny_getItem_list pl.isList (by omega) (by omega) (by simpa using ew) ⟨v, H, I, rw', q⟩
section
variable {X : Cx} {K : PySem.W.Frag} (hK : X.K = K)
include hK
theorem k_getL : PGet X (rGetL K) := hK ▸ get_list
end
section
variable {c : Ct} {Γ : List (Option Rs)} {te ta : TE} {k ka : Kd} {n m : Nat} {j : Int} {ns : List Int} {P : Out → Prop} {u : TS}
theorem s_augL {f : Int → Int → Int} (hx : Γ[n]? = some (some (.o (.list (ns.map .int))))) (hi : Ev c ta Γ ka (.int (m : Int))) (hm : m < ns.length) (h : Ev c te Γ k (.int j)) (p : P (.nx (Γ.set n (some (.o (.list ((ns.set m (f (ns.getD m 0) j)).map .int))))))) : Sd c (tAugS (tVar n) ta te (rGetL c.K) (ipI f) rSetL) Γ P := fun H0 O H σ D e s => by
  obtain ⟨q, xs, f1, hq, hp, fa, _⟩ := e.write (es := (ns.set m (f (ns.getD m 0) j)).map .int) hx
  refine ⟨.ref q, hq, hi H0 O H σ e _ fun w H2 r2 ws => ?_⟩
  have e2 := e.on r2
  obtain ⟨q2, xs2, f2, hq2, hp2, fa2, _⟩ := e2.write (es := (ns.set m (f (ns.getD m 0) j)).map .int) hx
  have eq2 : q2 = q := by rw [hq] at hq2; cases hq2; rfl
  subst eq2
  obtain ⟨_, ba2⟩ := fa2.flat0 (flatAll_ints ns)
  have i2 := ba2.ints
  subst i2
  refine ⟨q2, ns.map V.int, m, .int (ns.getD m 0), rfl, (Res.bo e ws).int', .inl (.inl hp2), by simp [List.getD_eq_getElem?_getD, hm], ?_⟩
  refine h H0 O H2 σ e2 _ fun y H4 r4 ys => ⟨_, _, rfl, (Res.bo e2 ys).int', ?_⟩
  have e4 := e2.on r4
  obtain ⟨q3, xs3, f3, hq3, hp3, fa3, qf3, qO3, wr⟩ := e4.write (es := (ns.set m (f (ns.getD m 0) j)).map .int) hx
  have eq3 : q3 = q2 := by rw [hq] at hq3; cases hq3; rfl
  subst eq3
  obtain ⟨e0, ba3⟩ := fa3.flat0 (flatAll_ints ns)
  have i3 := ba3.ints
  subst i3
  subst e0
  refine ⟨q3, ns.map V.int, (m : Int), m, rfl, (Res.bo e ws).int', hp3, ixN_at rfl (by simpa using hm), s _ p O _ σ (wr _ ?_)⟩
  have := (FoAll.set0 (m := m) (x := V.int (f (ns.getD m 0) j)) (e := PyData.int (f (ns.getD m 0) j)) fa3 rfl (.int _)).up (H' := upd H4 q3 (.lst ((ns.map V.int).set m (.int (f (ns.getD m 0) j))))) (fun _ _ s => sqT_upd hp3 s) fun a ha => absurd ha (by simp)
  rw [List.map_set]
  exact this
theorem q_augL {f : Int → Int → Int} (hx : Γ[n]? = some (some (.o (.list (ns.map .int))))) (hi : Ev c ta Γ ka (.int (m : Int))) (hm : m < ns.length) (h : Ev c te Γ k (.int j)) (p : Sd c u (Γ.set n (some (.o (.list ((ns.set m (f (ns.getD m 0) j)).map .int))))) P) : Sd c (tSeq (tAugS (tVar n) ta te (rGetL c.K) (ipI f) rSetL) u) Γ P := s_seq1 (s_augL hx hi hm h rfl) p
end
end Lm


/-! closed rules: the first allocation that lacks -/
namespace Lm
open PySem PySem.Spec PyProof.Rows L2
def gbL (as : List Int) (x : Nat) : List Int := (as.set x (as.getD x 0 - 1)).set 0 ((as.set x (as.getD x 0 - 1)).getD 0 0 + 1)
def misB (A : List (List Int)) (i x : Nat) : Bool := decide (0 < (A.getD i []).getD x 0) && !decide (gbL (A.getD i []) x ∈ A)
def misP (A : List (List Int)) (p : Nat × Nat) : Bool := misB A p.1 p.2
def misN (n v : Nat) : List (Nat × Nat) := (List.range n).flatMap fun i => (List.range (v - 1)).map fun k => (i, k + 1)
def misD (A : List (List Int)) (i x : Nat) : PyData := .tuple [.int (i : Int), .int (x : Int), tupD (gbL (A.getD i []) x)]
def misF (A : List (List Int)) (v : Nat) : PyData := match (misN A.length v).find? (misP A) with
  | none => .none
  | some p => misD A p.1 p.2
theorem mis_here {A : List (List Int)} {v i k : Nat} (hi : i < A.length) (hk : k < v - 1) (h1 : ∀ i' < i, ∀ k' < v - 1, misB A i' (k' + 1) = false) (h2 : ∀ k' < k, misB A i (k' + 1) = false) (h : misB A i (k + 1) = true) : misF A v = misD A i (k + 1) := by
  have e : (misN A.length v).find? (misP A) = some (i, k + 1) := find_flat hi (fun i' hi' => find_map0 fun k' hk' => h1 i' hi' k' hk') (find_map (f := fun k => (i, k + 1)) hk h2 h)
  unfold misF
  rw [e]
theorem mis_none0 {A : List (List Int)} {v : Nat} (h : ∀ i < A.length, ∀ k < v - 1, misB A i (k + 1) = false) : misF A v = .none := by
  have e : (misN A.length v).find? (misP A) = none := find_flat0 fun i hi => find_map0 fun k hk => h i hi k hk
  unfold misF
  rw [e]
theorem mis_fl {A : List (List Int)} {v : Nat} : flatD (misF A v) = true ∧ plD (misF A v) = true ∧ SeqAt.shaped (misF A v) = true := by
  unfold misF
  split
  · exact ⟨rfl, rfl, (sh_non (n := 0)).ok (by decide)⟩
  · refine ⟨by simp [misD, flatD, flatAll, flatAll_ints], ?_, (sh_tup (n := 1) fun d hd => ?_).ok (by decide)⟩
    · unfold misD
      refine pl_mem fun d hd => ?_
      simp only [List.mem_cons, List.not_mem_nil, or_false] at hd
      rcases hd with rfl | rfl | rfl
      · rfl
      · rfl
      · exact pl_tup _
    · simp only [List.mem_cons, List.not_mem_nil, or_false] at hd
      rcases hd with rfl | rfl | rfl
      · exact sh_int
      · exact sh_int
      · exact sh_ints _
end Lm


/-! what is no pair and no rule; promises of k53 -/
namespace Lm
open PySem PySem.Spec PyProof.Rows L2
def NoP (x : PyData) (v b : Nat) : Prop := (∀ es, x ≠ .tuple es) ∨ (∃ es, x = .tuple es ∧ es.length ≠ 2) ∨ (∃ a y, x = .tuple [a, y] ∧ SmallT a ∧ isAlloc a v b = false) ∨ (∃ as y, x = .tuple [tupD as, y] ∧ Alc as (v : Int) (b : Int) ∧ NoA y v b)
def NoR (x : PyData) (v b : Nat) : Prop := (∀ es, x ≠ .tuple es) ∨ (∃ es, x = .tuple es ∧ 20 < es.length) ∨ (∃ y, x = .tuple [y] ∧ NoP y v b) ∨ (∃ R : List Pr, x = .tuple (R.map rlD) ∧ R.length ≤ 20 ∧ (∀ p ∈ R, OkP p (v : Int) (b : Int)) ∧ ¬ (R.map (·.1)).Nodup)
def sp_is_pairX (K : PySem.W.Frag) : Sp := spD K fun ds k d => ∃ (x : PyData) (v b : Nat), ds = [x, .int (v : Int), .int (b : Int)] ∧ 1 ≤ v ∧ v ≤ 5 ∧ b ≤ 20 ∧ k = .v ∧ ((∃ p : Pr, x = rlD p ∧ OkP p (v : Int) (b : Int) ∧ d = .bool true) ∨ (NoP x v b ∧ d = .bool false))
def sp_is_ruleX (K : PySem.W.Frag) : Sp := spD K fun ds k d => ∃ (x : PyData) (v b : Nat), ds = [x, .int (v : Int), .int (b : Int)] ∧ 1 ≤ v ∧ v ≤ 5 ∧ b ≤ 20 ∧ k = .v ∧ ((∃ R : List Pr, x = .tuple (R.map rlD) ∧ Rul R (v : Int) (b : Int) ∧ d = .bool true) ∨ (NoR x v b ∧ d = .bool false))
def sp_given_back (K : PySem.W.Frag) : Sp := spD K fun ds k d => ∃ (as : List Int) (x : Nat), ds = [tupD as, .int (x : Int)] ∧ x < as.length ∧ k = .v ∧ d = tupD (gbL as x)
def sp_missing (K : PySem.W.Frag) : Sp := spD K fun ds k d => ∃ (R : List Pr) (v b : Nat), ds = [.int (v : Int), .int (b : Int), .tuple (R.map rlD)] ∧ Rul R (v : Int) (b : Int) ∧ k = .v ∧ d = misF (R.map (·.1)) v
section
variable {c : Ct} {Γ : List (Option Rs)} {tr : TA} {kv : Bool} {v : Nat}
theorem i_rng1v (h : EvA c tr Γ kv [.int 1, .int (v : Int)]) (hv : v ≤ 1000) : EvI c (iRng2 tr) Γ true ((List.range (v - 1)).map fun (k : Nat) => Im.d (.int ((k + 1 : Nat) : Int))) := by
  have := i_rng2 h (by omega) (by omega) (by omega) (by omega)
  unfold upI at this
  rw [List.map_map, show ((v : Int) - 1).toNat = v - 1 by omega] at this
  refine (congrArg (EvI c (iRng2 tr) Γ true) (List.map_congr_left fun i _ => ?_)).mp this
  show Im.d (.int (1 + (i : Int))) = _
  rw [show (1 : Int) + (i : Int) = ((i + 1 : Nat) : Int) by omega]
theorem rng1v_at {n : Nat} {a : Im} (h : ((List.range (v - 1)).map fun (k : Nat) => Im.d (.int ((k + 1 : Nat) : Int)))[n]? = some a) : n < v - 1 ∧ a = .d (.int ((n + 1 : Nat) : Int)) := by
  rw [List.getElem?_map] at h
  by_cases q : n < v - 1
  · rw [List.getElem?_range q] at h
    exact ⟨q, (Option.some.inj h).symm⟩
  · rw [List.getElem?_eq_none (by simpa using q)] at h
    cases h
end
end Lm


/-! entries of families -/
namespace Lm
open PySem PySem.Spec PyProof.Rows L2
def entI (i : Nat) (n : Int) : List (List Int) := (List.range n.toNat).map fun (p : Nat) => [((i + 1 : Nat) : Int), (p : Int)]
def entL (ns : List Int) : List (List Int) := (List.range ns.length).flatMap fun i => entI i (ns.getD i 0)
/-- the entries -/
theorem mem_ent {ns e : List Int} : e ∈ entL ns ↔ ∃ x y : Nat, e = [((x + 1 : Nat) : Int), (y : Int)] ∧ x < ns.length ∧ (y : Int) < ns.getD x 0 := by
  unfold entL entI
  simp only [List.mem_flatMap, List.mem_map, List.mem_range]
  constructor
  · rintro ⟨x, hx, y, hy, rfl⟩
    exact ⟨x, y, rfl, hx, by omega⟩
  · rintro ⟨x, y, rfl, hx, hy⟩
    exact ⟨x, hx, y, by omega, rfl⟩
end Lm


/-! sorted(xs), xs a list of rows -/
namespace L2
open PySem PySem.Spec PyProof.Rows
end L2
namespace Lm
open PySem PySem.Spec PyProof.Rows L2
section
variable {X : Cx} {K : PySem.W.Frag} (hK : X.K = K)
include hK
end
section
variable {c : Ct} {Γ : List (Option Rs)} {te : TE} {k : Kd}
end
end Lm


/-! tuple * -1 -/
namespace L2
open PySem PySem.Spec PyProof.Rows
end L2
namespace Lm
open PySem PySem.Spec PyProof.Rows L2
section
variable {X : Cx} {K : PySem.W.Frag} (hK : X.K = K)
include hK
end
section
variable {c : Ct} {Γ : List (Option Rs)} {ta tb : TE} {ka kb : Kd} {ds : List PyData} {i : Int}
end
end Lm


namespace Lm
open PySem PySem.Spec PyProof.Rows L2

/-! ### pairs of entries that are used together -/
abbrev E2 := List Int × List Int
structure UsP (A : List (List Int)) (s : List Int) (k : Nat) (Ps : List E2) : Prop where
  nd : Ps.Nodup
  mem : ∀ e f, (e, f) ∈ Ps ↔ (∃ r ∈ A, e ∈ entL r ∧ f ∈ entL r ∧ e ≠ f) ∨ (e ∈ (entL s).take k ∧ f ∈ entL s ∧ e ≠ f)
theorem UsP.nil : UsP [] [] 0 [] := ⟨List.nodup_nil, fun e f => by simp⟩
def newP (s e : List Int) (Ps : List E2) : List E2 := ((entL s).filter fun g => !decide (e = g) && !decide ((e, g) ∈ Ps)).map fun g => (e, g)
theorem UsP.step {A : List (List Int)} {s e : List Int} {k : Nat} {Ps : List E2} (h : UsP A s k Ps) (nd : (entL s).Nodup) (hk : (entL s)[k]? = some e) : UsP A s (k + 1) (Ps ++ newP s e Ps) := by
  refine ⟨?_, fun a b => ?_⟩
  · rw [List.nodup_append]
    refine ⟨h.nd, ?_, fun x hx y hy z => ?_⟩
    · exact List.Pairwise.map _ (fun a b ne z => ne (Prod.mk.inj z).2) (nd.filter _)
    · obtain ⟨g, hg, rfl⟩ := List.mem_map.mp hy
      have := (List.mem_filter.mp hg).2
      rw [Bool.and_eq_true] at this
      subst z
      have w := this.2
      rw [decide_eq_true hx] at w
      cases w
  · rw [List.mem_append, h.mem, List.take_add_one, hk]
    constructor
    · rintro ((w | w) | w)
      · exact .inl w
      · exact .inr ⟨List.mem_append_left _ w.1, w.2⟩
      · obtain ⟨g, hg, z⟩ := List.mem_map.mp w
        obtain ⟨rfl, rfl⟩ := Prod.mk.inj z
        obtain ⟨m, q⟩ := List.mem_filter.mp hg
        rw [Bool.and_eq_true] at q
        refine .inr ⟨by simp, m, ?_⟩
        have := q.1
        simpa using this
    · rintro (w | ⟨w1, w2, w3⟩)
      · exact .inl (.inl w)
      · rcases List.mem_append.mp w1 with q | q
        · exact .inl (.inr ⟨q, w2, w3⟩)
        · have q : a = e := by simpa using q
          subst q
          by_cases m : (a, b) ∈ Ps
          · exact .inl ((h.mem a b).mp m)
          · refine .inr (List.mem_map.mpr ⟨b, List.mem_filter.mpr ⟨w2, ?_⟩, rfl⟩)
            simp [m, w3]
theorem UsP.len {A : List (List Int)} {s : List Int} {k : Nat} {Ps : List E2} (h : UsP A s k Ps) (hA : ∀ r ∈ s :: A, r.length ≤ 4 ∧ ∀ x ∈ r, x ≤ 10) : Ps.length ≤ 1600 := by
  have big : ∀ r ∈ s :: A, ∀ e ∈ entL r, e ∈ entL [10, 10, 10, 10] := fun r hr e he => by
    obtain ⟨x, y, rfl, hx, hy⟩ := mem_ent.mp he
    have hs' := hA r hr
    have := hs'.2 _ (gd_mem hx)
    refine mem_ent.mpr ⟨x, y, rfl, by show x < 4; omega, ?_⟩
    have x4 : x < 4 := by omega
    have : ([10, 10, 10, 10] : List Int).getD x 0 = 10 := by
      match x, x4 with
      | 0, _ => rfl
      | 1, _ => rfl
      | 2, _ => rfl
      | 3, _ => rfl
    omega
  have l40 : (entL [10, 10, 10, 10]).length = 40 := by decide
  refine Nat.le_trans (nodup_sub (m := (entL [10, 10, 10, 10]).flatMap fun e => (entL [10, 10, 10, 10]).map fun f => (e, f)) h.nd fun p hp => ?_) ?_
  · obtain ⟨e, f⟩ := p
    have m : ∃ r ∈ s :: A, e ∈ entL r ∧ f ∈ entL r := by
      rcases (h.mem e f).mp hp with ⟨r, hr, h1, h2, _⟩ | ⟨h1, h2, _⟩
      · exact ⟨r, List.mem_cons_of_mem _ hr, h1, h2⟩
      · exact ⟨s, List.mem_cons_self, List.mem_of_mem_take h1, h2⟩
    obtain ⟨r, hr, h1, h2⟩ := m
    exact List.mem_flatMap.mpr ⟨e, big r hr e h1, List.mem_map_of_mem (big r hr f h2)⟩
  · have : ∀ (l m : List (List Int)), (l.flatMap fun e => m.map fun f => (e, f)).length = l.length * m.length := by
      intro l m
      induction l with
      | nil => simp
      | cons a l ih => rw [List.flatMap_cons, List.length_append, ih, List.length_map, List.length_cons, Nat.succ_mul]; omega
    rw [this, l40]
    decide
end Lm


namespace Lm
open PySem PySem.Spec PyProof.Rows L2

/-! ### while -/
section
variable {c : Ct} {H0 H : Hp} {O : List Addr} {σ : L2.St} {Γ : List (Option Rs)} {P : Out → Prop} {tc : TT} {tb u : TS}
end

/-! ### levels: the mathematics -/
def bvI (own : List Int) (h : Int) (ls : List Int) : List Int := own.filter fun y => decide (wrtI h ls y = gw own h ls)
def bvL (C : List (List Int)) (f ls : List Int) : List (List Int) := (C.zip f).map fun p => bvI p.1 p.2 ls
def upS (c : Int) (p : Pk) (ls : List Int) : List Int := (List.range ls.length).map fun y => ls.getD y 0 + c * b1 (p y)
def bnd (as f : List Int) (C : List (List Int)) (ls : List Int) : Int := zs mulI as ls + gwS C f ls
theorem upS_get {c : Int} {p : Pk} {ls : List Int} {y : Nat} (h : y < ls.length) : (upS c p ls).getD y 0 = ls.getD y 0 + c * b1 (p y) := by
  unfold upS
  rw [List.getD_eq_getElem?_getD, List.getElem?_map, List.getElem?_range h]
  rfl
theorem sumM_add {α : Type} (g h : α → Int) : ∀ l : List α, (l.map fun x => g x + h x).sum = (l.map g).sum + (l.map h).sum
  | [] => rfl
  | a :: l => by simp only [List.map_cons, List.sum_cons, sumM_add g h l]; omega
theorem sumM_mul {α : Type} (c : Int) (h : α → Int) : ∀ l : List α, (l.map fun x => c * h x).sum = c * (l.map h).sum
  | [] => by simp
  | a :: l => by simp only [List.map_cons, List.sum_cons, sumM_mul c h l, Int.mul_add]
theorem zs_up {as ls : List Int} (c : Int) (p : Pk) (h : as.length = ls.length) : zs mulI as (upS c p ls) = zs mulI as ls + c * rmP as p := by
  unfold zs rmP
  rw [← sumM_mul, ← sumM_add]
  congr 1
  refine List.map_congr_left fun j hj => ?_
  have := List.mem_range.mp hj
  rw [upS_get (by omega)]
  unfold mulI b1
  rw [Int.mul_add]
  by_cases q : p j = true
  · rw [if_pos q, if_pos q, Int.mul_one, Int.mul_comm c]
  · rw [if_neg q, if_neg q]; simp
theorem wrt_up {h c : Int} {p : Pk} {ls : List Int} {y : Int} (y0 : 0 ≤ y) (yl : y < ls.length) : wrtI h (upS c p ls) y = wrtI h ls y - c * b1 (p y.toNat) := by
  unfold wrtI
  rw [upS_get (by omega)]
  omega
theorem gw_mem {own ls : List Int} {h : Int} (ne : own ≠ []) : ∃ y ∈ own, wrtI h ls y = gw own h ls := by
  obtain ⟨y, hy, e⟩ := List.mem_map.mp (mxL_mem (ns := own.map (wrtI h ls)) (by rw [List.length_map]; exact List.length_pos_iff.mpr ne))
  exact ⟨y, hy, e⟩
theorem mem_bvI {own ls : List Int} {h y : Int} : y ∈ bvI own h ls ↔ y ∈ own ∧ wrtI h ls y = gw own h ls := by
  unfold bvI
  rw [List.mem_filter, decide_eq_true_iff]
theorem ins_iff {p : Pk} {own : List Int} : insP p own = true ↔ ∀ y ∈ own, p y.toNat = true := by
  unfold insP
  rw [List.all_eq_true]
theorem b1_nn (b : Bool) : 0 ≤ b1 b ∧ b1 b ≤ 1 := by cases b <;> simp [b1]
theorem gw_step {own ls : List Int} {h : Int} {p : Pk} (ne : own ≠ []) (hr : ∀ y ∈ own, 0 ≤ y ∧ y < ls.length) : gw own h (upS 1 p ls) = gw own h ls - b1 (insP p (bvI own h ls)) := by
  have wr : ∀ y ∈ own, wrtI h (upS 1 p ls) y = wrtI h ls y - b1 (p y.toNat) := fun y hy => by
    rw [wrt_up (hr y hy).1 (hr y hy).2]; omega
  obtain ⟨y1, m1, e1⟩ := gw_mem (h := h) (ls := upS 1 p ls) ne
  by_cases hc : insP p (bvI own h ls) = true
  · rw [hc]
    have hp := ins_iff.mp hc
    obtain ⟨y0, m0, e0⟩ := gw_mem (h := h) (ls := ls) ne
    have g0 := gw_ge (ls := upS 1 p ls) (h := h) m0
    rw [wr y0 m0, hp y0 (mem_bvI.mpr ⟨m0, e0⟩), e0] at g0
    have g1 := gw_ge (ls := ls) (h := h) m1
    rw [wr y1 m1] at e1
    show gw own h (upS 1 p ls) = gw own h ls - 1
    have b11 : b1 true = 1 := rfl
    by_cases q : wrtI h ls y1 = gw own h ls
    · rw [hp y1 (mem_bvI.mpr ⟨m1, q⟩)] at e1
      omega
    · have := b1_nn (p y1.toNat)
      omega
  · have hc' : insP p (bvI own h ls) = false := by simpa using hc
    rw [hc']
    have : ∃ y ∈ bvI own h ls, p y.toNat = false := by
      unfold insP at hc'
      rw [List.all_eq_false] at hc'
      obtain ⟨y, hy, q⟩ := hc'
      exact ⟨y, hy, by simpa using q⟩
    obtain ⟨y0, hy0, q0⟩ := this
    obtain ⟨m0, e0⟩ := mem_bvI.mp hy0
    have g0 := gw_ge (ls := upS 1 p ls) (h := h) m0
    rw [wr y0 m0, q0, e0] at g0
    have g1 := gw_ge (ls := ls) (h := h) m1
    rw [wr y1 m1] at e1
    have := b1_nn (p y1.toNat)
    have b10 : b1 false = 0 := rfl
    omega
theorem bv_cons {own : List Int} {C : List (List Int)} {h : Int} {f ls : List Int} : bvL (own :: C) (h :: f) ls = bvI own h ls :: bvL C f ls := rfl
theorem gwS_cons {own : List Int} {C : List (List Int)} {h : Int} {f ls : List Int} : gwS (own :: C) (h :: f) ls = gw own h ls + gwS C f ls := by simp [gwS]
theorem gwS_step {p : Pk} {ls : List Int} : ∀ {C : List (List Int)} {f : List Int}, C.length = f.length → [] ∉ C → Rng C ls.length → gwS C f (upS 1 p ls) = gwS C f ls - cfP (bvL C f ls) p
  | [], [], _, _, _ => by simp [gwS, bvL, cfP]
  | own :: C, h :: f, hl, ne, hr => by
    have ih := gwS_step (p := p) (ls := ls) (C := C) (f := f) (by simpa using hl) (fun z => ne (List.mem_cons_of_mem _ z)) fun o ho => hr o (List.mem_cons_of_mem _ ho)
    rw [gwS_cons, gwS_cons, bv_cons, cf_cons, ih, gw_step (fun z => ne (by rw [z]; exact List.mem_cons_self)) (hr own List.mem_cons_self)]
    omega
  | [], _ :: _, h, _, _ => by simp at h
  | _ :: _, [], h, _, _ => by simp at h
theorem bnd_step {as f ls : List Int} {C : List (List Int)} {p : Pk} (hl : C.length = f.length) (ne : [] ∉ C) (hr : Rng C ls.length) (ha : as.length = ls.length) : bnd as f C (upS 1 p ls) = bnd as f C ls + rmP as p - cfP (bvL C f ls) p := by
  unfold bnd
  rw [zs_up 1 p ha, gwS_step hl ne hr]
  omega
end Lm


namespace Lm
open PySem PySem.Spec PyProof.Rows L2

/-! ### the first levels -/
/-- what the levels of a setting speak of -/
structure LvOk (as f : List Int) (C : List (List Int)) (v b : Nat) : Prop where
  asl : as.length = v
  fl : f.length = b
  cl : C.length = b
  mns : Mns C v
  pw : ∀ own ∈ C, own.Pairwise (· < ·)
  v5 : v ≤ 5
  b20 : b ≤ 20
  alc : Alc as (v : Int) (b : Int)
variable {as f : List Int} {C : List (List Int)} {v b : Nat}
theorem LvOk.hall_ps (h : LvOk as f C v b) : Hall as C ↔ ∃ r, r ∈ psL as v b C := by
  have hr : Rng C as.length := by rw [h.asl]; exact h.mns.rng
  have sum : as.sum = C.length := by rw [h.alc.sum, h.cl]
  constructor
  · intro ha
    exact ⟨_, (mem_ps h.asl h.cl h.mns.rng).mpr (grd_fit hr ha sum)⟩
  · rintro ⟨r, hm⟩
    exact fit_hall hr ((mem_ps h.asl h.cl h.mns.rng).mp hm)
theorem zs_b : ∀ {f r : List Int}, f.length = r.length → 0 ≤ zs ne1 f r ∧ zs ne1 f r ≤ f.length
  | [], [], _ => by simp [zs]
  | x :: f, y :: r, h => by
    have := zs_b (f := f) (r := r) (by simpa using h)
    have e : ne1 x y = if x = y then 0 else 1 := rfl
    rw [zs_cons, e, List.length_cons]
    split <;> omega
  | [], _ :: _, h => by simp at h
  | _ :: _, [], h => by simp at h
theorem LvOk.no_nil (h : LvOk as f C v b) (ha : Hall as C) : [] ∉ C := by
  obtain ⟨r, hr⟩ := h.hall_ps.mp ha
  exact (weak (ls := List.replicate v 0) h.cl h.fl (by simp) hr).1
theorem LvOk.nn (h : LvOk as f C v b) (ha : Hall as C) {ls : List Int} (hl : ls.length = v) : 0 ≤ bnd as f C ls := by
  obtain ⟨r, hr⟩ := h.hall_ps.mp ha
  have w := (weak (ls := ls) h.cl h.fl hl hr).2
  have rl := ((mem_psL (by omega)).mp hr).1
  have z := zs_b (f := f) (r := r) (by rw [h.fl, rl])
  have := h.fl
  unfold bnd
  omega
theorem LvOk.step (h : LvOk as f C v b) (ha : Hall as C) {ls : List Int} {s : List Nat} (hl : ls.length = v) (hs : shS as (bvL C f ls) = some s) : bnd as f C (upS 1 (inS s) ls) < bnd as f C ls := by
  rw [bnd_step (by rw [h.cl, h.fl]) (h.no_nil ha) (by rw [hl]; exact h.mns.rng) (by rw [h.asl, hl])]
  obtain ⟨h1, h2⟩ := sh_some hs
  rw [room_rm h1] at h2
  omega
end Lm


namespace Lm
open PySem PySem.Spec PyProof.Rows L2

/-! ### promises of keeping.py, for up to 20 buckets -/
structure ExcW (as f : List Int) (F P : List (List Int)) (v b : Nat) : Prop where
  v1 : 1 ≤ v
  v5 : v ≤ 5
  b6 : b ≤ 20
  asg : Asg f (v : Int)
  len : f.length = b
  alc : Alc as (v : Int) (b : Int)
  prd : Prd F v b
  pin : Pin P v b
theorem Exc.w {as f : List Int} {F P : List (List Int)} {v b : Nat} (h : Exc as f F P v b) : ExcW as f F P v b := ⟨h.v1, h.v5, by have := h.b6; omega, h.asg, h.len, h.alc, h.prd, h.pin⟩
variable {as f : List Int} {C : List (List Int)} {v b : Nat}
end Lm


namespace Lm
open PySem PySem.Spec PyProof.Rows L2
variable {as f : List Int} {C : List (List Int)} {v b : Nat}
theorem Prd.sub {F F' : List (List Int)} (h : Prd F v b) (s : F'.Sublist F) : Prd F' v b :=
  ⟨fun r hr => h.row r (s.subset hr), h.asc.sublist s, Nat.le_trans s.length_le h.len⟩
theorem Pin.sub {F F' : List (List Int)} (h : Pin F v b) (s : F'.Sublist F) : Pin F' v b :=
  ⟨h.toPrd.sub s, h.fst.sublist s⟩
end Lm


namespace Lm
open PySem PySem.Spec PyProof.Rows L2
section
variable {c : Ct} {H H' H0 H1 H2 H3 : Hp} {O : List Addr} {σ : L2.St} {Γ Γ' : List (Option Rs)} {te ta tx : TE} {k : Kd} {u : TS} {P : Out → Prop} {n : Nat} {x : PyData}
/-! ### where no list of one's own is alive, what a call answers may be kept, lists in it too -/
def bareB : List (Option Rs) → Bool
  | [] => true
  | some (.o _) :: _ => false
  | none :: Γ => bareB Γ
  | some (.v _) :: Γ => bareB Γ
  | some (.r _) :: Γ => bareB Γ
  | some (.d _) :: _ => false
  | some (.w _) :: _ => false
theorem Reps.bare {fp : List Addr} (h : Reps c O H σ Γ fp) : bareB Γ = true → Reps c [] H σ Γ [] := by
  induction h with
  | nil => intro _; exact .nil
  | @cons x s f fs σ Γ a b ih =>
    intro hb
    cases s with
    | none => exact .cons (f := []) (fs := []) rfl (ih hb)
    | some s =>
      cases s with
      | o d => cases hb
      | d u => cases hb
      | w ds => cases hb
      | v d =>
        obtain ⟨_, v, hv, bo⟩ := a
        exact .cons (f := []) (fs := []) ⟨rfl, v, hv, by rw [mns_nil]; exact Bo.same mns_same bo⟩ (ih hb)
      | r y => exact .cons (f := []) (fs := []) ⟨rfl, a.2⟩ (ih hb)
theorem Env.bare (e : Env c H0 O H σ Γ) (hb : bareB Γ = true) : Env c H0 [] H σ Γ := by
  obtain ⟨fp, hr, _, _⟩ := e.rep
  exact ⟨by rw [mns_nil]; exact e.rH, by rw [mns_nil]; exact e.jH, (fun a h => nomatch h), (fun a h => nomatch h), [], hr.bare hb, List.nodup_nil, fun a h => nomatch h⟩
theorem q_unpV {m : Nat} {gs : TGs} (Pd : PyData → Prop) (hb : bareB Γ = true) (h : EvN c te Γ k Pd)
    (p : ∀ d, Pd d → ∃ ds Γ' js, d = .tuple ds ∧ ds.length = m ∧ EvGs c gs (ds.map Im.d) Γ Γ' js ∧ Sd c u Γ' P) : Sd c (tSeq (tAsg te (gTupA c.K m gs)) u) Γ P := fun H0 O H σ D e0 s => by
  have e := e0.bare hb
  refine h H0 [] H σ e _ fun v d H2 pd r rs => ?_
  obtain ⟨ds, Γ', js, rfl, hn, hg, hu⟩ := p d pd
  have e2 := e.on r
  obtain ⟨a, xs, rfl, sl, al⟩ := (Res.bo e rs).tup'
  exact ⟨a, xs, rfl, .inl sl.sq, al.len.trans hn, hg H0 [] H2 σ H2 true xs e2 e2.jH Rr.rf (fun _ => by rw [mns_nil]; exact Rr.rf) (.ofFz al) _ fun σ' e' _ => hu H0 [] H2 σ' D e' s⟩
end

/-! ### any evidence (k80) -/
end Lm


namespace Lm
open PySem PySem.Spec PyProof.Rows L2

/-! ### buckets and variants renamed in a setting -/
structure RnS (as as' : List Int) (C C' : List (List Int)) (v b : Nat) (os io nm im : List Int) : Prop where
  o : IsOrd os (b : Int)
  oi : IsOrd io (b : Int)
  q : IsOrd nm (v : Int)
  qi : IsOrd im (v : Int)
  o1 : ∀ k < b, gI io (gI os ((k : Nat) : Int)) = (k : Int)
  o2 : ∀ k < b, gI os (gI io ((k : Nat) : Int)) = (k : Int)
  q1 : ∀ k < v, gI im (gI nm ((k : Nat) : Int)) = (k : Int)
  q2 : ∀ k < v, gI nm (gI im ((k : Nat) : Int)) = (k : Int)
  al : as.length = v
  al' : as'.length = v
  cl : C.length = b
  cl' : C'.length = b
  rg : Rng C v
  rg' : Rng C' v
  sh : ∀ y < v, gI as' (gI nm ((y : Nat) : Int)) = gI as (y : Int)
  mn : ∀ k < b, ∀ y < v, (gI nm ((y : Nat) : Int) ∈ C'.getD (gI os ((k : Nat) : Int)).toNat [] ↔ (y : Int) ∈ C.getD k [])
section
variable {as as' f f' os io nm im : List Int} {C C' : List (List Int)} {v b : Nat}
theorem ord_nat {os : List Int} {m : Nat} (o : IsOrd os (m : Int)) {k : Nat} (hk : k < m) : ∃ j : Nat, gI os (k : Int) = (j : Int) ∧ j < m := by
  have r := o.rng _ (gd_mem (l := os) (j := k) (by have := o.len; omega))
  exact ⟨(os.getD k 0).toNat, by show os.getD k 0 = _; omega, by omega⟩
theorem RnS.symm (h : RnS as as' C C' v b os io nm im) : RnS as' as C' C v b io os im nm := by
  refine ⟨h.oi, h.o, h.qi, h.q, h.o2, h.o1, h.q2, h.q1, h.al', h.al, h.cl', h.cl, h.rg', h.rg, fun y hy => ?_, fun k hk y hy => ?_⟩
  · obtain ⟨z, ez, hz⟩ := ord_nat h.qi hy
    have := h.sh z hz
    rw [← ez, h.q2 y hy] at this
    exact this.symm
  · obtain ⟨z, ez, hz⟩ := ord_nat h.qi hy
    obtain ⟨j, ej, hj⟩ := ord_nat h.oi hk
    have := h.mn j hj z hz
    rw [← ez, ← ej, h.q2 y hy, h.o2 k hk, Int.toNat_natCast, ez] at this
    rw [ez, ej, Int.toNat_natCast]
    exact this.symm
end
end Lm


namespace Lm
open PySem PySem.Spec PyProof.Rows L2
/-! ### a def that answers or raises -/
theorem fn_or {P : Program} {w : World} {K : PySem.W.Frag} {mg : Str → Option Value} {base : Heap} {CX : CXT} {k : Nat} {f : Addr} {fd : FuncData} {ps : List Str} {sp sp' : Sp} (F : FnOk P w K mg base CX k f fd ps sp) (G : FnOk P w K mg base CX k f fd ps sp') :
    FnOk P w K mg base CX k f fd ps (fun vs H Q E => sp vs H Q E ∨ sp' vs H Q E) :=
  ⟨fun vs H Q E h => h.elim (F.len vs H Q E) (G.len vs H Q E), fun A outer s H args us vs Q E hr he hb hv hs => hs.elim (F.run A outer s H args us vs Q E hr he hb hv) (G.run A outer s H args us vs Q E hr he hb hv)⟩
end Lm


/-! itertools.permutations(range(n), k), walked -/
namespace PrmK
open PySem PySem.Spec PyProof.Rows L2
end PrmK


/-! itertools.permutations(range(n), k): made, its turns -/
namespace PrmK
open PySem PySem.Spec PyProof.Rows L2
end PrmK


/-! itertools.permutations: its turns -/
namespace PrmK
open PySem PySem.Spec PyProof.Rows L2
section
variable {prog : Program} {w : World} {A : Around} {E : Value → Shared → Prop} {s : Shared} {it T : Addr} {bf : Value} {ns : List Nat} {r : Nat} {xs : Array Value}
end
end PrmK


/-! itertools.permutations(range(n), k): made, its turns -/
namespace PrmK
open PySem PySem.Spec PyProof.Rows L2
end PrmK


/-! list(permutations(range(n))) -/
namespace PrmK
open PySem PySem.Spec PyProof.Rows L2
end PrmK
namespace Lm
open PySem PySem.Spec PyProof.Rows L2 PrmK
section
variable {prog : Program} {w : World} {A : Around} {E : Value → Shared → Prop} {s : Shared} {it T : Addr} {n k : Nat} {seq : List PrS} {xs : Array Value}
end
section
variable {prog : Program} {w : World} {A : Around} {R : Result → Shared → Prop}
end
section
variable {prog : Program} {w : World} {A : Around} {E : Value → Shared → Prop} {s : Shared}
end
section
variable {c : Ct} {H H' : Hp} {Γ : List (Option Rs)} {te : TE} {kd : Kd}
end
end Lm


/-! sorted(xs), xs a list of data that can be compared -/
namespace L2
open PySem PySem.Spec PyProof.Rows
end L2
namespace Lm
open PySem PySem.Spec PyProof.Rows L2
section
variable {X : Cx} {K : PySem.W.Frag} (hK : X.K = K)
include hK
end
section
variable {c : Ct} {Γ : List (Option Rs)} {te : TE} {k : Kd}
end
end Lm


/-! a comprehension whose items stay, lists in them too; a for loop over such things -/
namespace Lm
open PySem PySem.Spec PyProof.Rows L2
section
variable {c : Ct} {H H' H0 H1 H2 H3 H4 : Hp} {O : List Addr} {σ : L2.St} {Γ Γ' : List (Option Rs)} {te ta tb tx : TE} {tr : TA} {k ka kb : Kd} {u : TS} {P : Out → Prop} {n : Nat} {x d : PyData} {ds : List PyData} {fz : Bool}
theorem mns_own {D : Addr} {o : HO} (hD : H D = none) : mns (upd H D o) (D :: O) = mns H O := by
  funext a
  by_cases q : a = D
  · subst q
    rw [mns_in (by simp)]
    by_cases w : a ∈ O
    · rw [mns_in w]
    · rw [mns_out w, hD]
  · by_cases w : a ∈ O
    · rw [mns_in w, mns_in (by simp [w])]
    · rw [mns_out w, mns_out (by simp [w, q]), upd_ne q]
/-- with one more list of one's own -/
theorem Env.own {D : Addr} {acc : List V} (e : Env c H0 O H σ Γ) (hD : H D = none) (r : Rr c H H') (h : H' D = some (.lst acc)) (rm : Rr c (mns H O) (mns H' (D :: O))) : Env c H0 (D :: O) H' σ Γ := by
  refine ⟨e.r0.tr rm, rm.2 e.j, fun a ha => ?_, fun a ha => ?_, ?_⟩
  · rcases List.mem_cons.mp ha with w | w
    · subst w
      refine e.back0 ?_
      by_cases z : a ∈ O
      · exact mns_in z
      · rw [mns_out z]; exact hD
    · exact e.fr a w
  · rcases List.mem_cons.mp ha with w | w
    · subst w; exact ⟨_, h, trivial⟩
    · obtain ⟨xs, q, hq⟩ := e.dm a w
      exact ⟨xs, r.1 a _ (e.okO a w) q, hq⟩
  · obtain ⟨fp, h, nd, sub⟩ := e.rep
    refine ⟨fp, h.map fun x s f q z => ?_, nd, fun a ha => List.mem_cons_of_mem _ (sub a ha)⟩
    cases s with
    | none => exact z
    | some s =>
      cases s with
      | v d => exact ⟨z.1, z.2.elim fun v hv => ⟨v, hv.1, hv.2.mono e.j rm⟩⟩
      | o d => exact z.elim fun v hv => ⟨v, hv.1, hv.2.up (fun _ _ s => r.tup e.jH s) fun a ha o ho => r.1 a o (e.okO a (sub a (q a ha))) ho⟩
      | r y => exact z
      | d u => exact z.elim fun a ⟨w1, w2, w3, w4⟩ => ⟨a, w1, w2, r.1 a _ (e.okO a (sub a (q a (by rw [w1]; simp)))) w3, w4⟩
      | w ds => exact z.elim fun a ⟨xs, w1, w2, w3, w4⟩ => ⟨a, xs, w1, w2, r.1 a _ (e.okO a (sub a (q a (by rw [w1]; simp)))) w3, w4.mono e.j rm⟩
end
end Lm
namespace Lm
open PySem PySem.Spec PyProof.Rows L2
/-! ### any value: what shows that a set is too small -/
def intsD : PyData → List Int
  | .tuple ds => ds.map fun d => match d with
    | .int i => i
    | _ => 0
  | _ => []
theorem intsD_tup (ns : List Int) : intsD (tupD ns) = ns := by
  show (ns.map PyData.int).map _ = ns
  rw [List.map_map]
  exact List.map_id'' (fun _ => rfl) ns
def ascD (x : PyData) (m : Int) : Bool := areInts x 0 (m - 1) && decide ((intsD x).Pairwise (· < ·))
def SmF (x : PyData) : Prop := ∀ es, x = .tuple es → es.length < 64
theorem SmF.t {x : PyData} (h : SmF x) : SmallT x := fun es e => by have := h es e; omega
def natL (ns : List Int) : List Nat := ns.map Int.toNat
def shB (as : List Int) (C : List (List Int)) : PyData → Bool
  | .tuple [p, q] => ascD p as.length && (ascD q C.length && ((intsD q).all (fun i => insP (inS (natL (intsD p))) (C.getD i.toNat [])) && decide (roomI as (natL (intsD p)) < ((intsD q).length : Nat))))
  | _ => false
theorem shB_pr (as : List Int) (C : List (List Int)) (p q : PyData) : shB as C (.tuple [p, q]) = (ascD p as.length && (ascD q C.length && ((intsD q).all (fun i => insP (inS (natL (intsD p))) (C.getD i.toNat [])) && decide (roomI as (natL (intsD p)) < ((intsD q).length : Nat))))) := rfl
def SmV (x : PyData) : Prop := ∀ p q, x = .tuple [p, q] → SmF p ∧ SmF q
def sp_are_ascendingX (K : PySem.W.Frag) : Sp := spD K fun ds k d => ∃ (x : PyData) (m : Int), ds = [x, .int m] ∧ SmF x ∧ k = .v ∧ d = .bool (ascD x m)
def sp_is_shortageX (K : PySem.W.Frag) : Sp := spD K fun ds k d => ∃ (as : List Int) (C : List (List Int)) (cd x : PyData), ds = [tupD as, cd, x] ∧ MnD C cd ∧ Mns C as.length ∧ as.length ≤ 5 ∧ SmV x ∧ SmallT x ∧ k = .v ∧ d = .bool (shB as C x)
end Lm
namespace Lm
open PySem PySem.Spec PyProof.Rows L2
end Lm
namespace Lm
open PySem PySem.Spec PyProof.Rows L2
end Lm


namespace Lm
open PySem PySem.Spec PyProof.Rows L2
section
variable {c : Ct} {H H' H0 H1 H2 H3 H4 : Hp} {O : List Addr} {σ : L2.St} {Γ Γ' : List (Option Rs)} {te ta tb tx : TE} {tt : TT} {tr : TA} {k ka kb : Kd} {u : TS} {n : Nat} {x d : PyData} {ds : List PyData} {fz : Bool}
end
theorem smf_len {es : List PyData} (h : es.length < 64) : SmF (.tuple es) := fun es' e => by cases e; exact h
theorem smf_tup {ns : List Int} (h : ns.length < 64) : SmF (tupD ns) := smf_len (by simpa using h)
theorem smf_no {x : PyData} (h : ∀ es, x ≠ .tuple es) : SmF x := fun es e => absurd e (h es)
theorem cut_le {α : Type} {ds : List α} {lo hi : Option Int} : (cutD ds lo hi).length ≤ ds.length := by
  unfold cutD
  rw [List.length_take, List.length_drop]
  omega
end Lm


/-! evidence that there is none, for any value (k60) -/
namespace Lm
open PySem PySem.Spec PyProof.Rows L2
def natI (i : PyData) : Nat := match i with
  | .int i => i.toNat
  | _ => 0
def nlB (R : List Pr) (b : Nat) : List PyData → Bool
  | [p, q, r] => isIntD p 0 ((R.length : Int) - 1) && (isIntD q 0 ((R.length : Int) - 1) && (isIntD r 0 ((b : Int) - 1) && leftB (gR R (natI p)) (gR R (natI q)) (natI r)))
  | _ => false
def sNeedless : Str := Str.ofString "needless"
def sShort : Str := Str.ofString "short"
def sNone : Str := Str.ofString "none"
inductive EvX : PyData → Prop
  | non : EvX .none
  | lst (xs) : EvX (.list xs)
  | nil : EvX (.tuple [])
  | ned {rest : List PyData} : rest.length ≤ 4 → (∀ d ∈ rest, SmF d) → EvX (.tuple (.str sNeedless :: rest))
  | sho {rest : List PyData} : rest.length ≤ 4 → (∀ d ∈ rest, SmF d) → EvX (.tuple (.str sShort :: rest))
  | nam {rest : List PyData} : rest.length ≤ 4 → EvX (.tuple (.str sNone :: rest))
def accB (R : List Pr) (A : List Int) (v : Int) (b : Nat) : PyData → Bool
  | .tuple (.str s :: rest) => if s = sNeedless then nlB R b rest else if s = sShort then shB A (alwT R A v b) (.tuple rest) else false
  | _ => false
theorem acc_ned {R : List Pr} {A : List Int} {v : Int} {b : Nat} {rest : List PyData} : accB R A v b (.tuple (.str sNeedless :: rest)) = nlB R b rest := by
  unfold accB
  exact if_pos rfl
theorem ne_sn : sShort ≠ sNeedless := by decide +kernel
theorem ne_on : sNone ≠ sNeedless := by decide +kernel
theorem ne_os : sNone ≠ sShort := by decide +kernel
theorem acc_sho {R : List Pr} {A : List Int} {v : Int} {b : Nat} {rest : List PyData} : accB R A v b (.tuple (.str sShort :: rest)) = shB A (alwT R A v b) (.tuple rest) := by
  unfold accB
  show (if sShort = sNeedless then _ else if sShort = sShort then _ else _) = _
  rw [if_neg ne_sn, if_pos rfl]
theorem acc_nam {R : List Pr} {A : List Int} {v : Int} {b : Nat} {rest : List PyData} : accB R A v b (.tuple (.str sNone :: rest)) = false := by
  unfold accB
  show (if sNone = sNeedless then _ else if sNone = sShort then _ else _) = _
  rw [if_neg ne_on, if_neg ne_os]
def sp_is_needlessX (K : PySem.W.Frag) : Sp := spD K fun ds k d => ∃ (R : List Pr) (v : Int) (b : Nat) (rest : List PyData), ds = [.int (b : Int), .tuple (R.map rlD), .tuple rest] ∧ Rul R v b ∧ k = .v ∧ d = .bool (nlB R b rest)
def sp_accepts_noneX (K : PySem.W.Frag) : Sp := spD K fun ds k d => ∃ (R : List Pr) (A : List Int) (v : Int) (b : Nat) (x : PyData), ds = [.int v, .int (b : Int), .tuple (R.map rlD), tupD A, x] ∧ Rul R v b ∧ Alc A v b ∧ EvX x ∧ k = .v ∧ d = .bool (accB R A v b x)
end Lm
namespace Lm
open PySem PySem.Spec PyProof.Rows L2
theorem e_sortedTd {c : Ct} {Γ : List (Option Rs)} {te : TE} {k : Kd} {ns : List Int} (h : Ev c te Γ k (.tuple (ns.map .int))) (hl : ns.length < 64) : Ev c (tCB (rSortedA c.K) (tCons te tNil)) Γ .o (.list ((sortI ns).map .int)) :=
  ((n_sortedT h hl).imp fun d ⟨ns', e, pm, pw⟩ => by rw [e, sortI_eq pm pw]).det
end Lm
namespace Lm
open PySem PySem.Spec PyProof.Rows L2
end Lm


/-! displays of which some items are drawn -/
namespace Lm
open PySem PySem.Spec PyProof.Rows L2
def EvAN (c : Ct) (ta : TA) (Γ : List (Option Rs)) (Pd : List PyData → Prop) : Prop :=
  ∀ H0 O H σ, Env c H0 O H σ Γ → ∀ Q : List V → Hp → Prop, (∀ vs ds H2, Pd ds → Rr c H H2 → BoAll c (mns H2 O) vs ds → Q vs H2) → ta σ H Q
section
variable {c : Ct} {H H' H0 H1 H2 H3 H4 : Hp} {O : List Addr} {σ : L2.St} {Γ Γ' : List (Option Rs)} {te ta tb tx : TE} {tr : TA} {k ka kb : Kd} {u : TS} {n : Nat} {x d : PyData} {ds : List PyData} {P P' : PyData → Prop} {Pd : List PyData → Prop}
theorem an_nil : EvAN c tNil Γ (fun ds => ds = []) := fun H0 O H σ e Q q => q [] [] H rfl Rr.rf .nil
theorem an_cons {P2 : List PyData → Prop} (h : EvN c te Γ .v P) (t : EvAN c tr Γ P2) : EvAN c (tCons te tr) Γ (fun ds => ∃ d es, ds = d :: es ∧ P d ∧ P2 es) := fun H0 O H σ e Q q =>
  h H0 O H σ e _ fun v d H1 pd r1 s1 => t H0 O H1 σ (e.on r1) _ fun vs es H2 pe r2 s2 => by
    have b1 : Bo c (mns H2 O) v d := Res.on (k := .v) e r1 r2 s1
    exact q (v :: vs) (d :: es) H2 ⟨d, es, rfl, pd, pe⟩ (r1.tr r2) (.cons b1 s2)
theorem EvAN.imp {P2 : List PyData → Prop} (h : EvAN c tr Γ Pd) (i : ∀ ds, Pd ds → P2 ds) : EvAN c tr Γ P2 := fun H0 O H σ e Q q => h H0 O H σ e Q fun vs ds H2 p => q vs ds H2 (i ds p)
/-- all of one kind -/
def AllP (P : PyData → Prop) (n : Nat) (ds : List PyData) : Prop := ds.length = n ∧ ∀ d ∈ ds, P d
end
theorem smf_i {i : Int} : SmF (.int i) := smf_no fun es e => by cases e
end Lm


/-! sorted(xs, key=len), xs a list of lists -/
namespace L2
open PySem PySem.Spec PyProof.Rows
def lenLe (p q : Addr × List V) : Bool := decide ((p.2.length : Int) ≤ (q.2.length : Int))
def rSortLen (K : PySem.W.Frag) : List V → Hp → VK → Prop := fun vs H Q => ∃ (a : Addr) (R : List (Addr × List V)), vs = [V.ref a] ∧ SqL K H a (R.map fun q => V.ref q.1) ∧ (∀ q ∈ R, SqL K H q.1 q.2) ∧ R.length ≤ 1000000 ∧
  ∀ (p : Addr), H p = none → Q (.ref p) (upd H p (.lst ((R.mergeSort lenLe).map fun q => V.ref q.1)))
theorem each_refs : ∀ {R : List (Addr × List V)}, PySem.W.EachIs (fun v (b : Addr × List V) => v = Value.ref b.1) (R.map fun q => Value.ref q.1) R
  | [] => .nil
  | _ :: _ => .cons rfl each_refs
theorem out_refs : ∀ {out : List Value} {M : List (Addr × List V)}, PySem.W.EachIs (fun v (b : Addr × List V) => v = Value.ref b.1) out M → out = M.map fun q => Value.ref q.1
  | _, _, .nil => rfl
  | _, _, .cons h t => by rw [h, out_refs t]; rfl
theorem refsL : ∀ {R : List (Addr × List V)} {its : List Value}, Vals (R.map fun q => V.ref q.1) its → its = R.map fun q => Value.ref q.1
  | [], _, .nil => rfl
  | q :: R, _, .cons r t => by
    have e : _ = Value.ref q.1 := r
    rw [e, refsL t]; rfl
theorem valsL : ∀ (R : List (Addr × List V)), Vals (R.map fun q => V.ref q.1) (R.map fun q => Value.ref q.1)
  | [] => .nil
  | _ :: R => .cons rfl (valsL R)
theorem call_sortLen {X : Cx} (hu : X.A.units + 64 < cLine) {pins : List (Addr × Obj)} {s : Shared} {σ : St} {H : Hp} {vs : List V} {us : List Value} {Q : VK} (I : Inv X pins σ H s) (r : Vals vs us) (h : rSortLen X.K vs H Q) :
    wpAny (model X.prog X.w) X.A (call (.builtin "sorted") us [(Str.ofString "key", .builtin "len")]) (EP X pins σ Q) X.xe s := by
  obtain ⟨a, R, rfl, hs, hR, hl, q⟩ := h
  obtain ⟨its, rv, hp, hz⟩ := I.list hs
  have hits := refsL rv
  rw [Vals.ref1 r]
  subst hits
  refine PySem.W.sorted_key_data (bs := R) (R := fun v b => v = Value.ref b.1) (b := false) (f := .builtin "len") (fun b : Addr × List V => PyData.int (b.2.length : Nat)) hp.isList each_refs (PySem.W.AllAlike.of fun _ _ => by simp [PySem.W.alike]) (PySem.W.Sortable.others fun _ => ⟨by simp, by simp⟩) (by rw [sizeLine_eq]; omega) (fun b _ => ?_) (ksk_s1 _ _) (fun _ => ksk_l1 _ _) (fun _ => ksk_t4 _ _) (fun v x hv hx h' tk kp => ?_) fun out c h' tk kp hf hD lo eo => ?_
  · simp only [PyData.depth]
    omega
  · subst hv
    obtain ⟨its2, rv2, hp2, hz2⟩ := I.list (hR x hx)
    obtain ⟨o, ho, hc, n, hd⟩ := hp2.isList
    have l2 := rv2.length
    refine PySem.Calls.call_len_list (items := its2.toArray) ⟨o, kp _ _ ho, hc, n, hd⟩ (by rw [sizeLine_eq] at hz2; simp only [List.size_toArray]; omega) ?_
    refine ⟨h', _, rfl, fun b o e => e, ?_⟩
    rw [List.size_toArray, ← l2]
    exact .int _ _
  · have eo' := out_refs eo
    have em : R.mergeSort (PySem.W.dataLe false fun b : Addr × List V => PyData.int (b.2.length : Nat)) = R.mergeSort lenLe := by
      rw [PySem.W.dataLe_int fun b : Addr × List V => ((b.2.length : Nat) : Int)]
      rfl
    rw [em] at eo'
    have hpn : H (s.heap.objs.size + 1) = none := I.hok.fresh (Nat.le_succ _)
    exact ⟨.ref (s.heap.objs.size + 1), upd H (s.heap.objs.size + 1) (.lst ((R.mergeSort lenLe).map fun q => V.ref q.1)), I.laid (t' := tk) kp (Nat.le_succ _) ⟨by rw [List.length_map, List.length_mergeSort, sizeLine_eq]; omega, out, c, by rw [eo']; exact valsL _, hD⟩, rfl, q _ hpn⟩
end L2
namespace L2
open PySem PySem.Spec PyProof.Rows
/-- sorted(e, key=len) -/
theorem pe_sortLen {X : Cx} {p pos p2 kpos : Pos} {e : Expr} {t : TA} (hu : X.A.units + 64 < cLine) (hg : Gl X "sorted") (hm : X.mg "sorted" = none) (hgl : Gl X "len") (hml : X.mg "len" = none) (ha : PA X [e] t)
    (he : backTo pos (starEach [e] X.env) = (false, eval e X.env) :: backTo pos (starEach [] X.env) := by rfl) (hpl : (backTo pos (starEach [e] X.env)).any (·.1) = false := by rfl) :
    PE X (.Call (.Name "sorted" p) [e] [⟨some (Str.ofString "key"), .Name "len" p2, kpos⟩] pos) (tCB (rSortLen X.K) t) := by
  refine ⟨fun pins s σ H Q I h => ?_⟩
  refine wpAny_Call_Name_kw (ld_blt I hg hm (by rfl) ?_ (by decide) (by decide))
  refine PyProof.Rows.callWith_kw (thn (ha.run pos pins s σ H _ I h) fun us s1 ⟨vs, H1, I1, r1, q1⟩ => ?_) he hpl (by rfl) (by rfl)
  show wpAny _ _ (evalAll ((do let v ← eval (.Name "len" p2) X.env; standAt pos; pure v) :: [])) _ _ s1
  refine wpAny_evalAll_cons (wpAny_bind (ld_blt I1 hgl hml (by rfl) (wpAny_bind (wpAny_standAt (wpAny_pure ?_))) (by decide) (by decide)))
  refine wpAny_evalAll_nil ?_
  exact call_sortLen hu I1 r1 q1
end L2
namespace Lm
open PySem PySem.Spec PyProof.Rows L2
theorem k_sortLen {X : Cx} {K : PySem.W.Frag} {p pos p2 kpos : Pos} {e : Expr} {t : TA} (hK : X.K = K) (hu : X.A.units + 64 < cLine) (hg : Gl X "sorted") (hm : X.mg "sorted" = none) (hgl : Gl X "len") (hml : X.mg "len" = none) (ha : PA X [e] t)
    (he : backTo pos (starEach [e] X.env) = (false, eval e X.env) :: backTo pos (starEach [] X.env) := by rfl) (hpl : (backTo pos (starEach [e] X.env)).any (·.1) = false := by rfl) :
    PE X (.Call (.Name "sorted" p) [e] [⟨some (Str.ofString "key"), .Name "len" p2, kpos⟩] pos) (tCB (L2.rSortLen K) t) := hK ▸ L2.pe_sortLen hu hg hm hgl hml ha he hpl
def lenI (a b : List Int) : Bool := decide ((a.length : Int) ≤ (b.length : Int))
theorem bo_lists {c : Ct} {H : Hp} : ∀ {R : List (List Int)} {xs : List V}, BoAll c H xs (R.map lstD) → ∃ P : List ((Addr × List V) × List Int), xs = P.map (fun q => V.ref q.1.1) ∧ R = P.map (·.2) ∧ ∀ q ∈ P, SqL c.K H q.1.1 q.1.2 ∧ q.1.2.length = q.2.length ∧ Bo c H (.ref q.1.1) (lstD q.2)
  | [], _, .nil => ⟨[], rfl, rfl, fun q h => by cases h⟩
  | r :: R, _, .cons b t => by
    obtain ⟨P, e1, e2, h⟩ := bo_lists t
    obtain ⟨p, ys, rfl, ok, sl, al⟩ := Bo.lst' b
    refine ⟨((p, ys), r) :: P, by rw [e1]; rfl, by rw [e2]; rfl, fun q hq => ?_⟩
    rcases List.mem_cons.mp hq with w | w
    · rw [w]
      exact ⟨sl, by have := al.len; simpa using this, b⟩
    · exact h q w
theorem bo_lists2 {c : Ct} {H : Hp} : ∀ {P : List ((Addr × List V) × List Int)}, (∀ q ∈ P, Bo c H (.ref q.1.1) (lstD q.2)) → BoAll c H (P.map fun q => V.ref q.1.1) ((P.map (·.2)).map lstD)
  | [], _ => .nil
  | q :: P, h => .cons (h q (by simp)) (bo_lists2 fun r hr => h r (by simp [hr]))
section
variable {c : Ct} {Γ : List (Option Rs)} {te : TE} {k : Kd}
/-- lists of ints, by their lengths -/
theorem e_sortLen {R : List (List Int)} (h : Ev c te Γ k (.list (R.map lstD))) (hk : k ≠ .b) (hl : R.length ≤ 1000000) : Ev c (tCB (L2.rSortLen c.K) (tCons te tNil)) Γ .v (.list ((R.mergeSort lenI).map lstD)) := fun H0 O H σ e Q q =>
  h H0 O H σ e _ fun v H1 r1 s1 => by
    obtain ⟨p, xs, rfl, _, sl, ab⟩ := (Res.frozen e r1 s1 hk).lst'
    obtain ⟨P, e1, e2, hP⟩ := bo_lists ab
    subst e1
    have m1 : ((P.map (·.1)).mergeSort L2.lenLe) = (P.mergeSort fun x y => L2.lenLe x.1 y.1).map (·.1) := (PySem.W.sort_maps (r := fun x y => L2.lenLe x.1 y.1) (s := L2.lenLe) (fun q : (Addr × List V) × List Int => q.1) fun _ _ _ _ => rfl).symm
    have m2 : R.mergeSort lenI = (P.mergeSort fun x y => L2.lenLe x.1 y.1).map (·.2) := by
      rw [e2]
      refine (PySem.W.sort_maps (r := fun x y => L2.lenLe x.1 y.1) (s := lenI) (fun q : (Addr × List V) × List Int => q.2) fun a ha b hb => ?_).symm
      unfold L2.lenLe lenI
      rw [(hP a ha).2.1, (hP b hb).2.1]
    refine ⟨p, P.map (·.1), rfl, by rw [List.map_map]; exact mns_same.seq sl, fun q hq => ?_, by rw [List.length_map]; rw [e2, List.length_map] at hl; exact hl, fun b hb => ?_⟩
    · obtain ⟨z, hz, rfl⟩ := List.mem_map.mp hq
      exact mns_same.seq (hP z hz).1
    · rw [m1, List.map_map]
      have sub : ∀ z ∈ P.mergeSort fun x y => L2.lenLe x.1 y.1, z ∈ P := fun z hz => (List.mergeSort_perm _ _).mem_iff.mp hz
      refine q _ _ (r1.tr (Rr.same fun b u z => by rw [upd_ne (ne_of_none z hb)]; exact z)) ?_
      rw [m2]
      exact newV (H := H1) (e.on r1) (bo_lists2 fun z hz => (hP z (sub z hz)).2.2) hb
end
end Lm
namespace Lm
open PySem PySem.Spec PyProof.Rows L2
def slL (T : List (List Int)) (v : Int) : List Int := ((T.map fun ns => placesI ns v).mergeSort lenI).foldl (fun acc row => acc ++ row.filter fun x => !decide (x ∈ acc)) []
def sp_short_list (K : PySem.W.Frag) : Sp := spD K fun ds k d => ∃ (T : List (List Int)) (v : Int), ds = [.list (T.map tupD), .int v] ∧ (∀ ns ∈ T, Asg ns 5 ∧ ns.length ≤ 20) ∧ T.length ≤ 20 ∧ 0 ≤ v ∧ v ≤ 4 ∧ k = .v ∧ d = tupD (slL T v)
end Lm
namespace Lm
open PySem PySem.Spec PyProof.Rows L2
def lorD (R : List Pr) (v b : Int) : PyData := match leftF R b.toNat with
  | .none => .tuple ((List.range (v - 1).toNat).map fun (i : Nat) => tupD (slL (R.map (·.2)) ((i : Int) + 1)))
  | _ => .none
def sp_lists_of_rule (K : PySem.W.Frag) : Sp := spD K fun ds k d => ∃ (R : List Pr) (v b : Int), ds = [.int v, .int b, .tuple (R.map rlD)] ∧ Rul R v b ∧ k = .v ∧ d = lorD R v b
end Lm
namespace Lm
open PySem PySem.Spec PyProof.Rows L2
theorem cut_map {α β : Type} {f : α → β} {ds : List α} {lo hi : Option Int} : cutD (ds.map f) lo hi = (cutD ds lo hi).map f := by
  unfold cutD
  rw [List.length_map, List.map_take, List.map_drop]
def fitB (r own : List Int) : Bool := decide (sortI (cutD r none (some ((own.length : Nat) : Int))) = own)
def sp_fits (K : PySem.W.Frag) : Sp := spD K fun ds k d => ∃ r own : List Int, ds = [tupD r, .list (own.map .int)] ∧ r.length < 64 ∧ k = .v ∧ d = .bool (fitB r own)
end Lm
namespace Lm
open PySem PySem.Spec PyProof.Rows L2
def rwB (b : Int) (r : PyData) : Bool := areInts r 0 (b - 1) && decide (((sdI (intsD r)).length : Int) = ((intsD r).length : Int))
def alB (x : PyData) (v b : Int) : Bool := match x with
  | .tuple es => decide ((es.length : Int) = v) && es.all (rwB b)
  | _ => false
def SmL (x : PyData) : Prop := ∀ es, x = .tuple es → es.length ≤ 1000 ∧ ∀ r ∈ es, SmF r
def sp_are_listsX (K : PySem.W.Frag) : Sp := spD K fun ds k d => ∃ (x : PyData) (v b : Int), ds = [x, .int v, .int b] ∧ SmL x ∧ k = .v ∧ d = .bool (alB x v b)
end Lm


/-! lists by whomever (k56) -/
namespace Lm
open PySem PySem.Spec PyProof.Rows L2
/-! ### rules: a slice whose end is drawn, tuples of which one is drawn -/
section
variable {c : Ct} {H H' H0 H1 H2 H3 : Hp} {O : List Addr} {Γ Γ' Γ1 : List (Option Rs)}
variable {te ta tb tx : TE} {tl th : TO} {k ka kb : Kd} {d x y z : PyData} {i j : Int} {a b : Bool} {ds es : List PyData}
def zipQ (p : List Int × List Int) : Im := .t [.d (tupD p.1), .d (lstD p.2)]
theorem i_zipTLQ {Ls Os : List (List Int)} (h1 : Ev c ta Γ .v (.tuple (Ls.map tupD))) (h2 : Ev c tb Γ kb (.list (Os.map lstD))) (n1 : kb ≠ .b) (hl : Ls.length = Os.length) : EvI c (iZipM c.K false true (tCons ta (tCons tb tNil))) Γ true ((Ls.zip Os).map zipQ) := by
  have := i_zipTL h1 h2 n1 (by simpa using hl)
  have e : zipD (Ls.map tupD) (Os.map lstD) = (Ls.zip Os).map zipQ := by
    unfold zipD
    rw [List.zip_map, List.map_map]
    rfl
  rwa [e] at this
end
/-! ### the mathematics -/
inductive RwX : PyData → Prop
  | row {ns : List Int} : ns.length ≤ 60 → RwX (tupD ns)
  | bad {ns : List Int} : ns.length ≤ 60 → RwX (.tuple (ns.map .int ++ [.bool true]))
  | int (i : Int) : RwX (.int i)
def LsX (x : PyData) : Prop := x = .none ∨ (∃ xs, x = .list xs) ∨ ∃ es, x = .tuple es ∧ es.length ≤ 10 ∧ ∀ e ∈ es, RwX e
theorem RwX.sm {e : PyData} (h : RwX e) : SmF e := by
  cases h with
  | row h => exact smf_tup (by omega)
  | bad h => exact smf_len (by simp; omega)
  | int i => exact smf_i
theorem LsX.sm {x : PyData} (h : LsX x) : SmL x := fun es e => by
  subst e
  rcases h with h | ⟨xs, h⟩ | ⟨es', h, hl, hr⟩
  · cases h
  · cases h
  · cases h
    exact ⟨by omega, fun r hr' => (hr r hr').sm⟩
def lsI (x : PyData) : List (List Int) := match x with
  | .tuple es => es.map intsD
  | _ => []
theorem lsI_tup (Ls : List (List Int)) : lsI (.tuple (Ls.map tupD)) = Ls := by
  show (Ls.map tupD).map intsD = Ls
  rw [List.map_map]
  conv => rhs; rw [← List.map_id Ls]
  exact List.map_congr_left fun r _ => intsD_tup r
theorem alB_iff {x : PyData} {v b : Int} (h : alB x v b = true) : ∃ Ls : List (List Int), x = .tuple (Ls.map tupD) ∧ (Ls.length : Int) = v ∧ (∀ r ∈ Ls, ∀ n ∈ r, 0 ≤ n ∧ n ≤ b - 1) ∧ ∀ r ∈ Ls, (sdI r).length = r.length := by
  unfold alB at h
  split at h
  · rename_i es
    rw [Bool.and_eq_true, List.all_eq_true] at h
    have hl := of_decide_eq_true h.1
    have hr : ∀ e ∈ es, ∃ ns : List Int, e = tupD ns ∧ (∀ n ∈ ns, 0 ≤ n ∧ n ≤ b - 1) ∧ (sdI ns).length = ns.length := fun e he => by
      have := h.2 e he
      unfold rwB at this
      rw [Bool.and_eq_true] at this
      obtain ⟨ns, rfl, hr⟩ := areInts_ints this.1
      have h2 := of_decide_eq_true this.2
      rw [show intsD (.tuple (ns.map .int)) = ns from intsD_tup ns] at h2
      exact ⟨ns, rfl, hr, by omega⟩
    have e : es = (es.map intsD).map tupD := by
      rw [List.map_map]
      conv => lhs; rw [← List.map_id es]
      refine List.map_congr_left fun e he => ?_
      obtain ⟨ns, rfl, _⟩ := hr e he
      show tupD ns = tupD (intsD (tupD ns))
      rw [intsD_tup]
    refine ⟨es.map intsD, by rw [← e], by rw [List.length_map]; exact hl, fun r hr' => ?_, fun r hr' => ?_⟩
    · obtain ⟨e, he, rfl⟩ := List.mem_map.mp hr'
      obtain ⟨ns, rfl, h1, _⟩ := hr e he
      rw [intsD_tup]; exact h1
    · obtain ⟨e, he, rfl⟩ := List.mem_map.mp hr'
      obtain ⟨ns, rfl, _, h2⟩ := hr e he
      rw [intsD_tup]; exact h2
  · cases h
/-- the first buckets of the lists are those of the variants -/
def ownL (v : Nat) (p : Pr) : List (List Int) := (List.range (v - 1)).map fun (i : Nat) => placesI p.2 ((i : Int) + 1)
def srvP (Ls : List (List Int)) (v : Nat) (p : Pr) : Bool := (List.range (v - 1)).all fun i => fitB (Ls.getD i []) (placesI p.2 ((i : Int) + 1))
theorem srv_zip {Ls : List (List Int)} {v : Nat} {p : Pr} (hl : Ls.length = v - 1) : ((Ls.zip (ownL v p)).all fun q => fitB q.1 q.2) = srvP Ls v p := by
  have e : Ls.zip (ownL v p) = (List.range (v - 1)).map fun (i : Nat) => (Ls.getD i [], placesI p.2 ((i : Int) + 1)) := by
    unfold ownL
    apply List.ext_getElem
    · simp [hl]
    · intro i h1 h2
      have : i < Ls.length := by simp [hl] at h2; omega
      simp [List.getD_eq_getElem?_getD, this]
  rw [e, List.all_map]
  rfl
def srvB (R : List Pr) (v b : Int) (x : PyData) : Bool := alB x (v - 1) b && R.all (srvP (lsI x) v.toNat)
/-! ### the promises -/
def sp_serves_ruleX (K : PySem.W.Frag) : Sp := spD K fun ds k d => ∃ (R : List Pr) (v b : Int) (x : PyData), ds = [.int v, .int b, .tuple (R.map rlD), x] ∧ Rul R v b ∧ SmL x ∧ k = .v ∧ d = .bool (srvB R v b x)
end Lm


/-! a dict of one's own whose values are scalars -/
namespace Lm
open PySem PySem.Spec PyProof.Rows L2
section
variable {c : Ct} {H H' H0 H1 H2 H3 : Hp} {O : List Addr} {σ : L2.St} {Γ Γ' : List (Option Rs)} {te ta tb tx : TE} {k ka kb : Kd} {u : TS} {P : Out → Prop} {n : Nat} {x d : PyData} {i : Int}
/-- a slot is given a new dict -/
theorem Env.setD (e : Env c H0 O H σ Γ) {i : Nat} {p : Addr} {u : HO} (hp : H p = none) (hu : OwnU u) : Env c H0 (p :: O) (upd H p u) (σ.set i (some (.ref p))) (Γ.set i (some (.d u))) := by
  have sm : Same H (upd H p u) := fun b o z => by rw [upd_ne (ne_of_none z hp)]; exact z
  have r : Rr c H (upd H p u) := Rr.same sm
  have e' := e.on r
  have hO : p ∉ O := new_notO e hp
  have hn : mns H O p = none := by rw [mns_out hO]; exact hp
  have em : mns (upd H p u) (p :: O) = mns H O := by
    funext a
    by_cases q : a = p
    · subst q
      rw [mns_in (by simp), hn]
    · by_cases w : a ∈ O
      · rw [mns_in w, mns_in (by simp [w])]
      · rw [mns_out w, mns_out (by simp [w, q]), upd_ne q]
  refine ⟨by rw [em]; exact e.r0, by rw [em]; exact e.j, fun a ha => ?_, fun a ha => ?_, ?_⟩
  · rcases List.mem_cons.mp ha with q | q
    · rw [q]; exact e.back0 hn
    · exact e.fr a q
  · rcases List.mem_cons.mp ha with q | q
    · rw [q]; exact ⟨u, upd_same, hu⟩
    · exact e'.dm a q
  · obtain ⟨fp, hr, nd, sub⟩ := e.rep
    have keep : ∀ y t g, (∀ a ∈ g, a ∈ O) → RepO c O H y t g → RepO c (p :: O) (upd H p u) y t g := fun y t g hg z => by
      cases t with
      | none => exact z
      | some t =>
        cases t with
        | v d => exact ⟨z.1, z.2.elim fun v hv => ⟨v, hv.1, by rw [em]; exact hv.2⟩⟩
        | o d => exact z.elim fun v hv => ⟨v, hv.1, hv.2.up (fun _ _ s => r.tup e.jH s) fun a ha o ho => r.1 a o (e.okO a (hg a ha)) ho⟩
        | r y => exact z
        | d u => exact z.elim fun a ⟨w1, w2, w3, w4⟩ => ⟨a, w1, w2, r.1 a _ (e.okO a (hg a (by rw [w1]; simp))) w3, w4⟩
        | w ds => exact z.elim fun a ⟨xs, w1, w2, w3, w4⟩ => ⟨a, xs, w1, w2, r.1 a _ (e.okO a (hg a (by rw [w1]; simp))) w3, by rw [em]; exact w4⟩
    by_cases hi : i < Γ.length
    · obtain ⟨x, g, pre, post, h1, h2, h3, h4⟩ := hr.nth (s := Γ[i]) (List.getElem?_eq_getElem hi)
      subst h3
      refine ⟨pre ++ ([p] ++ post), h4 _ _ _ _ [p] (fun y t g' q z => keep y t g' (fun a ha => sub a (by have := q a ha; simp at this ⊢; rcases this with w | w <;> simp [w])) z) ⟨p, rfl, rfl, upd_same, hu⟩, ?_, fun a ha => ?_⟩
      · have n0 : (pre ++ post).Nodup := nd.sublist (by simp)
        rw [List.nodup_append] at n0 ⊢
        refine ⟨n0.1, ?_, ?_⟩
        · rw [List.nodup_append]
          refine ⟨by simp, n0.2.1, fun a ha b' hb q => ?_⟩
          subst q
          rw [List.mem_singleton.mp ha] at hb
          exact hO (sub p (by simp [hb]))
        · intro a ha b' hb q
          subst q
          rcases List.mem_append.mp hb with w | w
          · rw [List.mem_singleton.mp w] at ha
            exact hO (sub p (by simp [ha]))
          · exact n0.2.2 a ha a w rfl
      · simp only [List.mem_append, List.mem_cons, List.not_mem_nil, or_false] at ha ⊢
        rcases ha with q | q | q
        · exact .inr (sub a (by simp [q]))
        · exact .inl q
        · exact .inr (sub a (by simp [q]))
    · have hs : ¬ i < σ.length := by rw [hr.len]; exact hi
      rw [List.set_eq_of_length_le (by omega), List.set_eq_of_length_le (by omega)]
      exact ⟨fp, hr.map fun x s g q z => keep x s g (fun a ha => sub a (q a ha)) z, nd, fun a ha => by simp [sub a ha]⟩
/-- a dict of one's own is written -/
theorem Env.writeD (e : Env c H0 O H σ Γ) {i : Nat} {u w : HO} (h : Γ[i]? = some (some (.d u))) (hw : OwnU w) : ∃ p, σ[i]? = some (some (.ref p)) ∧ H p = some u ∧ p ∈ O ∧ Env c H0 O (upd H p w) σ (Γ.set i (some (.d w))) := by
  obtain ⟨fp, hr, nd, sub⟩ := e.rep
  obtain ⟨x, f0, pre, post, h1, h2, h3, h4⟩ := hr.nth h
  obtain ⟨p, rfl, rfl, hp, hu⟩ := h2
  subst h3
  have hpO : p ∈ O := sub p (by simp)
  have n2 := (List.nodup_append.mp nd).2.1
  refine ⟨p, h1, hp, hpO, ?_⟩
  have em : mns (upd H p w) O = mns H O := by
    funext a
    by_cases ha : a ∈ O
    · rw [mns_in ha, mns_in ha]
    · rw [mns_out ha, mns_out ha, upd_ne (fun z => ha (by rw [z]; exact hpO))]
  refine ⟨by rw [em]; exact e.r0, by rw [em]; exact e.j, e.fr, fun a ha => ?_, ?_⟩
  · by_cases q : a = p
    · rw [q]; exact ⟨_, upd_same, hw⟩
    · rw [upd_ne q]; exact e.dm a ha
  · have hσ : σ.set i (some (.ref p)) = σ := by
      obtain ⟨hlt, e1⟩ := List.getElem?_eq_some_iff.mp h1
      rw [← e1]
      exact List.set_getElem_self hlt
    have np : ∀ a, a ∈ pre ++ post → a ≠ p := fun a hm z => by
      subst z
      rcases List.mem_append.mp hm with v | v
      · exact (List.nodup_append.mp nd).2.2 a v a (by simp) rfl
      · exact (List.nodup_append.mp n2).2.2 a (by simp) a v rfl
    have := h4 O (upd H p w) (some (.ref p)) (some (.d w)) [p] (fun y t g q z => ?_) ⟨p, rfl, rfl, upd_same, hw⟩
    · rw [hσ] at this
      exact ⟨_, this, nd, sub⟩
    · cases t with
      | none => exact z
      | some t =>
        cases t with
        | v d => exact ⟨z.1, z.2.elim fun v hv => ⟨v, hv.1, by rw [em]; exact hv.2⟩⟩
        | o d =>
          refine z.elim fun v hv => ⟨v, hv.1, hv.2.up (fun _ _ s => sqT_updO hp hu s) fun a ha o ho => ?_⟩
          rw [upd_ne (np a (q a ha))]
          exact ho
        | r y => exact z
        | d u2 =>
          refine z.elim fun a ⟨w1, w2, w3, w4⟩ => ⟨a, w1, w2, ?_, w4⟩
          rw [upd_ne (np a (q a (by rw [w1]; simp)))]
          exact w3
        | w ds =>
          refine z.elim fun a ⟨xs, w1, w2, w3, w4⟩ => ⟨a, xs, w1, w2, ?_, by rw [em]; exact w4⟩
          rw [upd_ne (np a (q a (by rw [w1]; simp)))]
          exact w3
/-! ### rules -/
end
end Lm
namespace Lm
open PySem PySem.Spec PyProof.Rows L2
end Lm


/-! the first list that serves (k55, k20) -/
namespace Lm
open PySem PySem.Spec PyProof.Rows L2
/-! ### sets that grow, each ascending -/
def addF (acc row : List Int) : List Int := acc ++ row.filter fun x => !decide (x ∈ acc)
structure Grow (acc : List Int) (R : List (List Int)) : Prop where
  nd : acc.Nodup
  asc : ∀ S ∈ R, S.Pairwise (· < ·)
  sub : ∀ S ∈ R, ∀ x ∈ acc, x ∈ S
  pw : R.Pairwise fun S T => ∀ x ∈ S, x ∈ T
theorem asc_nd {S : List Int} (h : S.Pairwise (· < ·)) : S.Nodup := h.imp fun w e => by omega
theorem add_perm {acc S : List Int} (nd : acc.Nodup) (ns : S.Nodup) (sub : ∀ x ∈ acc, x ∈ S) : (addF acc S).Perm S := by
  unfold addF
  refine (List.perm_ext_iff_of_nodup ?_ ns).mpr fun x => ?_
  · rw [List.nodup_append]
    exact ⟨nd, ns.filter _, fun a ha b hb e => by
      have := (List.mem_filter.mp hb).2
      rw [e] at ha
      simp [ha] at this⟩
  · rw [List.mem_append, List.mem_filter]
    constructor
    · rintro (h | h)
      · exact sub x h
      · exact h.1
    · intro h
      by_cases q : x ∈ acc
      · exact .inl q
      · exact .inr ⟨h, by simp [q]⟩
theorem Grow.step {acc S : List Int} {R : List (List Int)} (h : Grow acc (S :: R)) : (addF acc S).Perm S ∧ Grow (addF acc S) R := by
  have p1 := List.pairwise_cons.mp h.pw
  have p := add_perm h.nd (asc_nd (h.asc S (by simp))) (h.sub S (by simp))
  exact ⟨p, ⟨p.nodup_iff.mpr (asc_nd (h.asc S (by simp))), fun T hT => h.asc T (by simp [hT]), fun T hT x hx => p1.1 T hT x (p.mem_iff.mp hx), p1.2⟩⟩
theorem Grow.fold : ∀ {R : List (List Int)} {acc : List Int}, Grow acc R → acc <+: R.foldl addF acc ∧ (R.foldl addF acc).Nodup ∧ (∀ S ∈ R, ((R.foldl addF acc).take S.length).Perm S) ∧ ∀ S, R.getLast? = some S → (R.foldl addF acc).Perm S
  | [], acc, h => ⟨List.prefix_refl _, h.nd, (fun S hS => nomatch hS), fun S hS => nomatch hS⟩
  | S :: R, acc, h => by
    obtain ⟨p, g⟩ := h.step
    obtain ⟨i1, i2, i3, i4⟩ := g.fold
    rw [List.foldl_cons]
    refine ⟨(List.prefix_append _ _).trans i1, i2, fun T hT => ?_, fun T hT => ?_⟩
    · rcases List.mem_cons.mp hT with w | w
      · obtain ⟨t, ht⟩ := i1
        rw [w, ← ht, List.take_append_of_le_length (by rw [p.length_eq]; exact Nat.le_refl _), List.take_of_length_le (by rw [p.length_eq]; exact Nat.le_refl _)]
        exact p
      · exact i3 T w
    · cases R with
      | nil =>
        have : T = S := by simpa using hT.symm
        rw [this]; exact p
      | cons U R => exact i4 T (by simpa using hT)
end Lm
namespace Lm
open PySem PySem.Spec PyProof.Rows L2
/-- sets of which any two are one in the other, by size -/
structure Chn (M : List (List Int)) : Prop where
  asc : ∀ S ∈ M, S.Pairwise (· < ·)
  sub : ∀ S ∈ M, ∀ T ∈ M, S.length ≤ T.length → ∀ x ∈ S, x ∈ T
theorem sort_mem {M : List (List Int)} {S : List Int} : S ∈ M.mergeSort lenI ↔ S ∈ M := (List.mergeSort_perm _ _).mem_iff
theorem sort_len (M : List (List Int)) : (M.mergeSort lenI).Pairwise fun S T => S.length ≤ T.length := by
  have := List.pairwise_mergeSort (le := lenI) (fun a b c h1 h2 => by unfold lenI at *; simp at *; omega) (fun a b => by unfold lenI; simp; omega) M
  exact this.imp fun h => by unfold lenI at h; simp at h; omega
theorem Chn.grow {M : List (List Int)} (h : Chn M) : Grow [] (M.mergeSort lenI) := ⟨List.nodup_nil, fun S hS => h.asc S (sort_mem.mp hS), (fun S _ x hx => nomatch hx), by
  have := sort_len M
  exact this.imp_of_mem fun {S T} hS hT l => h.sub S (sort_mem.mp hS) T (sort_mem.mp hT) l⟩
def slM (M : List (List Int)) : List Int := (M.mergeSort lenI).foldl addF []
theorem Chn.nd {M : List (List Int)} (h : Chn M) : (slM M).Nodup := h.grow.fold.2.1
theorem Chn.take {M : List (List Int)} (h : Chn M) {S : List Int} (hS : S ∈ M) : ((slM M).take S.length).Perm S := h.grow.fold.2.2.1 S (sort_mem.mpr hS)
/-! ### the first list of a rule (k55) -/
end Lm


/-! first lists of a table (k20, k21) -/
namespace Lm
open PySem PySem.Spec PyProof.Rows L2
/-! ### the full lists -/
def rngI (b : Nat) : List Int := (List.range b).map fun (i : Nat) => (i : Int)
theorem mem_rngI {b : Nat} {x : Int} : x ∈ rngI b ↔ 0 ≤ x ∧ x < b := by
  unfold rngI
  rw [List.mem_map]
  constructor
  · rintro ⟨i, hi, rfl⟩
    have := List.mem_range.mp hi
    omega
  · intro h
    exact ⟨x.toNat, List.mem_range.mpr (by omega), by omega⟩
/-! ### the promises -/
end Lm


/-! judged lists (k21) -/
namespace Lm
open PySem PySem.Spec PyProof.Rows L2
section
variable {c : Ct} {H H' H0 H1 H2 H3 : Hp} {O : List Addr} {Γ Γ' Γ1 : List (Option Rs)}
variable {te ta tb tx : TE} {tl th : TO} {k ka kb : Kd} {d x y z : PyData} {i j : Int} {a b : Bool} {ds es : List PyData} {t u : TS} {P : Out → Prop}
end
theorem sml_no {x : PyData} (h : ∀ es, x ≠ .tuple es) : SmL x := fun es e => absurd e (h es)
end Lm


/-! defs that answer or raise: promises, and what raises within a body -/
namespace Lm
open PySem PySem.Spec PyProof.Rows L2
def spRef (K : PySem.W.Frag) (C : Addr) (R : List PyData → Str → Prop) : Sp := fun vs H Q E => ∃ ds nm, BoAll (pc K) H vs ds ∧ R ds nm ∧ ∀ dx H1, Same H H1 → H1 dx = some (.xd [("name", .str nm)]) → E (.ref C) (some dx) H1
abbrev spDR (K : PySem.W.Frag) (C : Addr) (sp : Sp) (R : List PyData → Str → Prop) : Sp := fun vs H Q E => sp vs H Q E ∨ spRef K C R vs H Q E
section
variable {K : PySem.W.Frag} {C : Addr} {H0 : Hp} {Γ : List (Option Rs)} {σ : L2.St} {te tf : TE} {ta : TA} {tt : TT} {t u : TS} {k kb : Kd} {d x : PyData} {n : Nat} {nm : Str} {ds : List PyData} {R : List PyData → Str → Prop} {sp : Sp} {E : XK} {W : L2.St → XK} {a : Bool}
/-- te raises -/
def EvRz (c : Ct) (H0 : Hp) (te : TE) (Γ : List (Option Rs)) : Prop := ∀ O H σ Q, Env c H0 O H σ Γ → te σ H Q
def EtRz (c : Ct) (H0 : Hp) (tt : TT) (Γ : List (Option Rs)) : Prop := ∀ O H σ Q, Env c H0 O H σ Γ → tt σ H Q
theorem same_of {H H1 : Hp} (e : Env (pc K) H0 O H σ Γ) (r : Rr (pc K) H H1) {H2 : Hp} (sm : Same H1 H2) : Same H0 H2 := fun a o w => sm a o ((e.rH.tr r).1 a o (fun _ _ w => nomatch w) w)
theorem x_ref (ha : EvA (pc K) ta Γ false ds) (hr : R ds nm) (hE : ∀ dx H1, Same H0 H1 → H1 dx = some (.xd [("name", .str nm)]) → E (.ref C) (some dx) H1) : EvRz (pc K) H0 (tCall (spDR K C sp R) [] E ta) Γ := fun O H σ Q e =>
  ha H0 O H σ e _ fun vs H1 r s => .inr ⟨ds, nm, by rw [List.append_nil]; exact s, hr, fun dx H2 sm z => hE dx H2 (same_of e r sm) z⟩
theorem x_good {pre : Pre} (h : EvA (pc K) ta Γ false ds) (hp : pre ds k d) : Ev (pc K) (tCall (spDR K C (spD K pre) R) [] E ta) Γ k d := fun H0 O H σ e Q q =>
  h H0 O H σ e _ fun vs H1 r s => by
    refine .inl ⟨ds, k, d, by rw [List.append_nil]; exact s.pure, hp, fun v H2 sm rt => q v H2 (r.tr (Rr.same sm)) ?_⟩
    have r2 : Rr (pc K) H H2 := r.tr (Rr.same sm)
    cases k with
    | v => exact (Bo.flat (c := pc K) (c' := pc K) rfl rt.1 rt.2).flatM e r2 rt.1
    | o =>
      obtain ⟨fp, f, nd, new⟩ := rt
      exact ⟨fp, f, nd, fun a ha => r.back e.jH (new a ha)⟩
    | b => obtain ⟨⟨_, e⟩, _⟩ := rt; exact nomatch e
theorem xl_req (hz : nm.length ≤ 1000) (hE : ∀ dx H1, Same H0 H1 → H1 dx = some (.xd [("name", .str nm)]) → E (.ref C) (some dx) H1) (h : Ev (pc K) te Γ k (.bool false)) : SdX (pc K) H0 (tDrop (tCall (spReq C) [] E (tCons te (tCons (tC (.str nm)) tNil)))) Γ := fun O H σ D e =>
  h H0 O H σ e _ fun v H1 r s => ⟨false, nm, by rw [(Res.bo e s).bl']; rfl, hz, (fun w => nomatch w), fun _ dx hdx => hE dx _ (fun a o z => by
    have z1 : H1 a = some o := (e.rH.tr r).1 a o (fun _ _ w => nomatch w) z
    rw [upd_ne (ne_of_none z1 hdx)]
    exact z1) upd_same⟩
theorem x_okreq (hz : nm.length ≤ 1000) (h : Ev (pc K) te Γ k (.bool true)) (p : SdX (pc K) H0 u Γ) : SdX (pc K) H0 (tSeq (tDrop (tCall (spReq C) [] E (tCons te (tCons (tC (.str nm)) tNil)))) u) Γ := fun O H σ D e =>
  h H0 O H σ e _ fun v H1 r s => ⟨true, nm, by rw [(Res.bo e s).bl']; rfl, hz, (fun _ => p O H1 σ D (e.on r)), fun w => nomatch w⟩
theorem x_seq {c : Ct} (h : SdX c H0 t Γ) : SdX c H0 (tSeq t u) Γ := fun O H σ D e => h O H σ _ e
theorem x_dropE {c : Ct} (h : EvRz c H0 te Γ) : SdX c H0 (tDrop te) Γ := fun O H σ D e => h O H σ _ e
theorem x_retE {c : Ct} (h : EvRz c H0 te Γ) : SdX c H0 (tRet te) Γ := fun O H σ D e => h O H σ _ e
theorem x_opl {c : Ct} {r : R2} (h : EvRz c H0 te Γ) : EvRz c H0 (tOp r te tf) Γ := fun O H σ Q e => h O H σ _ e
theorem x_arg {c : Ct} {dvs : List V} (h : EvRz c H0 te Γ) : EvRz c H0 (tCall sp dvs E (tCons te ta)) Γ := fun O H σ Q e => h O H σ _ e
theorem x_test {c : Ct} (h : EvRz c H0 te Γ) : EtRz c H0 (tTest te) Γ := fun O H σ Q e => h O H σ _ e
theorem x_if {c : Ct} (h : EtRz c H0 tt Γ) : SdX c H0 (tIfS tt t u) Γ := fun O H σ D e => h O H σ _ e
theorem run_ref {N : List Str} {t : TS} {vs : List V} {H : Hp} {Q : VK}
    (hs : ∀ ds nm, R ds nm → (∀ dx H1, Same H H1 → H1 dx = some (.xd [("name", .str nm)]) → E (.ref C) (some dx) H1) → SdX (pc K) H t (argsG ds N.length)) (h : spRef K C R vs H Q E) : t { nx := fun _ H' => Q .non H', rt := Q } (start N vs) H := by
  obtain ⟨ds, nm, hb, hd, hE⟩ := h
  exact hs ds nm hd hE [] H (start N vs) _ (env_args Ji.pc hb)
/-! under try, where nothing is assigned -/
def SdY (c : Ct) (H0 : Hp) (σ : L2.St) (t : TS) (Γ : List (Option Rs)) : Prop := ∀ O H D, Env c H0 O H σ Γ → t D σ H
theorem y_drop (ha : EvA (pc K) ta Γ false ds) (hr : R ds nm) (hE : ∀ dx H1, Same H0 H1 → H1 dx = some (.xd [("name", .str nm)]) → W σ (.ref C) (some dx) H1) : SdY (pc K) H0 σ (tDrop (tCallS (spDR K C sp R) W ta)) Γ := fun O H D e =>
  ha H0 O H σ e _ fun vs H1 r s => .inr ⟨ds, nm, s, hr, fun dx H2 sm z => hE dx H2 (same_of e r sm) z⟩
theorem d_callS {pre : Pre} (h : EvA (pc K) ta Γ false ds) (hp : pre ds k d) : Ev (pc K) (tCallS (spDR K C (spD K pre) R) W ta) Γ k d := fun H0 O H σ e Q q =>
  h H0 O H σ e _ fun vs H1 r s => by
    refine .inl ⟨ds, k, d, s.pure, hp, fun v H2 sm rt => q v H2 (r.tr (Rr.same sm)) ?_⟩
    have r2 : Rr (pc K) H H2 := r.tr (Rr.same sm)
    cases k with
    | v => exact (Bo.flat (c := pc K) (c' := pc K) rfl rt.1 rt.2).flatM e r2 rt.1
    | o =>
      obtain ⟨fp, f, nd, new⟩ := rt
      exact ⟨fp, f, nd, fun a ha => r.back e.jH (new a ha)⟩
    | b => obtain ⟨⟨_, e⟩, _⟩ := rt; exact nomatch e
end
/-! ### who raises what -/
def RcV (ds : List PyData) (nm : Str) : Prop := ∃ x, ds = [x] ∧ isIntD x 1 5 = false ∧ nm = "variants"
theorem RcV_len {ds nm} (h : RcV ds nm) : ds.length = 1 := by obtain ⟨x, rfl, _⟩ := h; rfl
def RcB (ds : List PyData) (nm : Str) : Prop := ∃ (x : PyData) (n : Int), ds = [x, .int n] ∧ isIntD x 0 (n - 1) = false ∧ nm = "bucket"
theorem RcB_len {ds nm} (h : RcB ds nm) : ds.length = 2 := by obtain ⟨x, n, rfl, _⟩ := h; rfl
/-! ### k26 -/
end Lm


/-! what lists give, told or refused (k22) -/
namespace Lm
open PySem PySem.Spec PyProof.Rows L2
section
variable {K : PySem.W.Frag} {C : Addr} {σ : L2.St} {nm : Str}
end
/-! ### any value as an allocation -/
/-! ### what is due -/
/-! ### lists of distinct buckets -/
structure Dst (r : List Int) : Prop where
  nd : r.Nodup
  rg : ∀ x ∈ r, 0 ≤ x ∧ x < 20
theorem Dst.len {r : List Int} (h : Dst r) : r.length ≤ 20 := by
  have := List.Nodup.length_le_of_subset (l₁ := r) (l₂ := rngI 20) h.nd fun x hx => by
    have := h.rg x hx
    exact mem_rngI.mpr (by omega)
  unfold rngI at this
  simpa using this
end Lm


/-! a comprehension of two clauses -/
namespace Lm
open PySem PySem.Spec PyProof.Rows L2
section
variable {c : Ct} {H H' H0 H1 H2 H3 H4 : Hp} {O : List Addr} {σ σ1 : L2.St} {Γ Γ1 Γ' : List (Option Rs)} {te : TE} {fz : Bool} {k : Kd} {u : TS} {P : Out → Prop} {n : Nat}
theorem Reps.bareM {fp : List Addr} {D : Addr} (j : Ji c (mns H O)) (rm : Rr c (mns H O) (mns H' O)) (h : Reps c O H σ Γ fp) : bareB Γ = true → Reps c O H' σ Γ [] := by
  induction h with
  | nil => intro _; exact .nil
  | @cons x s f fs σ Γ a b ih =>
    intro hb
    cases s with
    | none => exact .cons (f := []) (fs := []) rfl (ih hb)
    | some s =>
      cases s with
      | o d => cases hb
      | d u => cases hb
      | w ds => cases hb
      | v d =>
        obtain ⟨_, v, hv, bo⟩ := a
        exact .cons (f := []) (fs := []) ⟨rfl, v, hv, bo.mono j rm⟩ (ih hb)
      | r y => exact .cons (f := []) (fs := []) ⟨rfl, a.2⟩ (ih hb)
end
end Lm
namespace Lm
open PySem PySem.Spec PyProof.Rows L2
/-! ### all tables of a plan (k39 to k43, k52) -/
/-! ### buckets may be told in another order -/
/-! ### how many there are -/
/-! ### the promises -/
/-! ### plans that go round -/
end Lm


/-! a list of one's own whose items stay, lists in them too -/
namespace Lm
open PySem PySem.Spec PyProof.Rows L2
section
variable {c : Ct} {H H' H0 H1 H2 H3 : Hp} {O : List Addr} {σ : L2.St} {Γ Γ' : List (Option Rs)} {te ta tb tx : TE} {tr : TA} {k ka kb : Kd} {u t : TS} {P : Out → Prop} {n m : Nat} {x d : PyData} {ds es : List PyData} {i : Int} {fz : Bool} {tt : TT}
/-- a list of one's own that is kept in a slot is a list whose items stay, and back -/
theorem Env.dw (e : Env c H0 O H σ Γ) {i : Nat} {xs : List V} {ds : List PyData} (h : Γ[i]? = some (some (.d (.lst xs)))) (b : BoAll c (mns H O) xs ds) : Env c H0 O H σ (Γ.set i (some (.w ds))) := by
  obtain ⟨fp, hr, nd, sub⟩ := e.rep
  obtain ⟨x, f, pre, post, h1, h2, h3, h4⟩ := hr.nth h
  obtain ⟨a, rfl, rfl, ha, _⟩ := h2
  subst h3
  have hσ : σ.set i (some (.ref a)) = σ := by
    obtain ⟨hlt, e1⟩ := List.getElem?_eq_some_iff.mp h1
    rw [← e1]
    exact List.set_getElem_self hlt
  have := h4 O H (some (.ref a)) (some (.w ds)) [a] (fun y t g q z => z) ⟨a, xs, rfl, rfl, ha, b⟩
  rw [hσ] at this
  exact ⟨e.r0, e.j, e.fr, e.dm, _, this, nd, sub⟩
theorem Env.wd (e : Env c H0 O H σ Γ) {i : Nat} {ds : List PyData} (h : Γ[i]? = some (some (.w ds))) : ∃ a xs, σ[i]? = some (some (.ref a)) ∧ H a = some (.lst xs) ∧ a ∈ O ∧ BoAll c (mns H O) xs ds ∧ Env c H0 O H σ (Γ.set i (some (.d (.lst xs)))) := by
  obtain ⟨fp, hr, nd, sub⟩ := e.rep
  obtain ⟨x, f, pre, post, h1, h2, h3, h4⟩ := hr.nth h
  obtain ⟨a, xs, rfl, rfl, ha, b⟩ := h2
  subst h3
  have hσ : σ.set i (some (.ref a)) = σ := by
    obtain ⟨hlt, e1⟩ := List.getElem?_eq_some_iff.mp h1
    rw [← e1]
    exact List.set_getElem_self hlt
  have := h4 O H (some (.ref a)) (some (.d (.lst xs))) [a] (fun y t g q z => z) ⟨a, rfl, rfl, ha, trivial⟩
  rw [hσ] at this
  exact ⟨a, xs, h1, ha, sub a (by simp), b, e.r0, e.j, e.fr, e.dm, _, this, nd, sub⟩
theorem BoAll.setW : ∀ {xs : List V} {ds : List PyData}, BoAll c H xs ds → ∀ {m : Nat} {v : V} {d : PyData}, Bo c H v d → BoAll c H (xs.set m v) (ds.set m d)
  | _, _, .nil, _, _, _, _ => .nil
  | _, _, .cons _ b, 0, _, _, bo => .cons bo b
  | _, _, .cons a b, _ + 1, _, _, bo => .cons a (b.setW bo)
/-- a slot is given a new list D whose items stay -/
theorem Env.newW (e : Env c H0 O H σ Γ) {i : Nat} {D : Addr} {xs : List V} (hD : H D = none) (r : Rr c H H') (h : H' D = some (.lst xs)) (rm : Rr c (mns H O) (mns H' (D :: O))) (b : BoAll c (mns H' (D :: O)) xs ds) : Env c H0 (D :: O) H' (σ.set i (some (.ref D))) (Γ.set i (some (.w ds))) := by
  have hO : D ∉ O := new_notO e hD
  refine ⟨e.r0.tr rm, rm.2 e.j, fun a ha => ?_, fun a ha => ?_, ?_⟩
  · rcases List.mem_cons.mp ha with q | q
    · rw [q]; exact e.back0 (by rw [mns_out hO]; exact hD)
    · exact e.fr a q
  · rcases List.mem_cons.mp ha with q | q
    · rw [q]; exact ⟨_, h, trivial⟩
    · obtain ⟨u, w, hw⟩ := e.dm a q
      exact ⟨u, r.1 a _ (e.okO a q) w, hw⟩
  · obtain ⟨fp, hr, nd, sub⟩ := e.rep
    have keep : ∀ y t g, (∀ a ∈ g, a ∈ O) → RepO c O H y t g → RepO c (D :: O) H' y t g := fun y t g hg z => by
      cases t with
      | none => exact z
      | some t =>
        cases t with
        | v d => exact ⟨z.1, z.2.elim fun v hv => ⟨v, hv.1, hv.2.mono e.j rm⟩⟩
        | o d => exact z.elim fun v hv => ⟨v, hv.1, hv.2.up (fun _ _ s => r.tup e.jH s) fun a ha o ho => r.1 a o (e.okO a (hg a ha)) ho⟩
        | r y => exact z
        | d u => exact z.elim fun a ⟨w1, w2, w3, w4⟩ => ⟨a, w1, w2, r.1 a _ (e.okO a (hg a (by rw [w1]; simp))) w3, w4⟩
        | w ds => exact z.elim fun a ⟨xs, w1, w2, w3, w4⟩ => ⟨a, xs, w1, w2, r.1 a _ (e.okO a (hg a (by rw [w1]; simp))) w3, w4.mono e.j rm⟩
    by_cases hi : i < Γ.length
    · obtain ⟨x, g, pre, post, h1, h2, h3, h4⟩ := hr.nth (s := Γ[i]) (List.getElem?_eq_getElem hi)
      subst h3
      refine ⟨pre ++ ([D] ++ post), h4 _ _ _ _ [D] (fun y t g' q z => keep y t g' (fun a ha => sub a (by have := q a ha; simp at this ⊢; rcases this with w | w <;> simp [w])) z) ⟨D, xs, rfl, rfl, h, b⟩, ?_, fun a ha => ?_⟩
      · have n0 : (pre ++ post).Nodup := nd.sublist (by simp)
        rw [List.nodup_append] at n0 ⊢
        refine ⟨n0.1, ?_, ?_⟩
        · rw [List.nodup_append]
          refine ⟨by simp, n0.2.1, fun a ha b' hb q => ?_⟩
          subst q
          rw [List.mem_singleton.mp ha] at hb
          exact hO (sub D (by simp [hb]))
        · intro a ha b' hb q
          subst q
          rcases List.mem_append.mp hb with w | w
          · rw [List.mem_singleton.mp w] at ha
            exact hO (sub D (by simp [ha]))
          · exact n0.2.2 a ha a w rfl
      · simp only [List.mem_append, List.mem_cons, List.not_mem_nil, or_false] at ha ⊢
        rcases ha with q | q | q
        · exact .inr (sub a (by simp [q]))
        · exact .inl q
        · exact .inr (sub a (by simp [q]))
    · have hs : ¬ i < σ.length := by rw [hr.len]; exact hi
      rw [List.set_eq_of_length_le (by omega), List.set_eq_of_length_le (by omega)]
      exact ⟨fp, hr.map fun x s g q z => keep x s g (fun a ha => sub a (q a ha)) z, nd, fun a ha => by simp [sub a ha]⟩
/-- te makes a new list whose items stay -/
def EvW (c : Ct) (te : TE) (Γ : List (Option Rs)) (ds : List PyData) : Prop :=
  ∀ H0 O H σ, Env c H0 O H σ Γ → ∀ Q : VK, (∀ p xs H2, H p = none → Rr c H H2 → H2 p = some (.lst xs) → Rr c (mns H O) (mns H2 (p :: O)) → BoAll c (mns H2 (p :: O)) xs ds → Q (.ref p) H2) → te σ H Q
theorem q_asgW (h : EvW c te Γ ds) (p : Sd c u (Γ.set n (some (.w ds))) P) : Sd c (tSeq (tAsg te (gName n)) u) Γ P := fun H0 O H σ D e s =>
  h H0 O H σ e _ fun a xs H2 ha r h2 rm b => p H0 (a :: O) H2 _ D (e.newW ha r h2 rm b) s
theorem newW1 {H1 : Hp} {xs : List V} {p : Addr} (e : Env c H0 O H σ Γ) (r : Rr c H H1) (hp : H1 p = none) (b : BoAll c (mns H1 O) xs ds) {Q : VK} (q : ∀ p xs H2, H p = none → Rr c H H2 → H2 p = some (.lst xs) → Rr c (mns H O) (mns H2 (p :: O)) → BoAll c (mns H2 (p :: O)) xs ds → Q (.ref p) H2) : Q (.ref p) (upd H1 p (.lst xs)) :=
  q p xs _ (r.back e.jH hp) (r.tr (Rr.same fun b u z => by rw [upd_ne (ne_of_none z hp)]; exact z)) upd_same (by rw [mns_own hp]; exact r.mns e.j e.okO) (by rw [mns_own hp]; exact b)
theorem w_lst (h : EvA c tr Γ true ds) (hl : ds.length ≤ 1000000) : EvW c (tLst tr) Γ ds := fun H0 O H σ e Q q =>
  h H0 O H σ e _ fun vs H1 r s => by
    have s' := BoAll.vm s
    exact ⟨by rw [s'.len]; exact sizeOk hl, fun p hp => newW1 e r hp s' q⟩
theorem w_list (h : Ev c te Γ .v (.list ds)) : EvW c (tCB (rListA c.K) (tCons te tNil)) Γ ds := fun H0 O H σ e Q q =>
  h H0 O H σ e _ fun v H1 r s => by
    have bv : Bo c (mns H1 O) v (.list ds) := s
    obtain ⟨p, xs, rfl, _, sl, al⟩ := bv.lst'
    exact ⟨p, xs, rfl, .inl (mns_same.seq sl), fun l hl => newW1 e r hl al q⟩
theorem w_cat (ha : Ev c ta Γ .v (.list ds)) (hb : Ev c tb Γ .v (.list es)) (hl : ds.length + es.length ≤ 1000000) : EvW c (tOp (rCatS c.K) ta tb) Γ (ds ++ es) := fun H0 O H σ e Q q =>
  ha H0 O H σ e _ fun v H1 r1 s1 => hb H0 O H1 σ (e.on r1) _ fun u H2 r2 s2 => by
    have bv : Bo c (mns H2 O) v (.list ds) := Res.on (k := .v) e r1 r2 s1
    have bu : Bo c (mns H2 O) u (.list es) := s2
    obtain ⟨p, xs, rfl, _, sl, al⟩ := bv.lst'
    obtain ⟨b, zs, rfl, _, sl2, al2⟩ := bu.lst'
    exact ⟨p, b, xs, zs, rfl, rfl, mns_same.seq sl, mns_same.seq sl2, by rw [al.len, al2.len]; exact sizeOk hl, fun p' hp' => newW1 e (r1.tr r2) hp' (al.app al2) q⟩
/-- x[i] = v -/
theorem s_setW (hx : Γ[n]? = some (some (.w ds))) (h : Ev c te Γ .v d) (hi : Ev c ta Γ ka (.int i)) (hj : ixN ds.length i = some m) (p : P (.nx (Γ.set n (some (.w (ds.set m d)))))) : Sd c (tAsg te (gSub (tVar n) ta rSetL)) Γ P := fun H0 O H σ D e s =>
  h H0 O H σ e _ fun v H2 r rs => by
    have e2 := e.on r
    obtain ⟨a, xs, ha, hH, hO, b, _⟩ := e2.wd hx
    refine ⟨.ref a, ha, hi H0 O H2 σ e2 _ fun w H3 r3 ws => ?_⟩
    have e3 := e2.on r3
    obtain ⟨a', xs', ha', hH', hO', b', ed⟩ := e3.wd hx
    have : a' = a := by rw [ha] at ha'; cases ha'; rfl
    subst this
    have bv : Bo c (mns H3 O) v d := Res.on (k := .v) e r r3 rs
    have hn : n < Γ.length := (List.getElem?_eq_some_iff.mp hx).1
    obtain ⟨p2, hp2, hq2, hq3, ew⟩ := ed.writeD (w := .lst (xs'.set m v)) (List.getElem?_set_self hn) trivial
    have : p2 = a' := by rw [ha] at hp2; cases hp2; rfl
    subst this
    have em : mns (upd H3 p2 (.lst (xs'.set m v))) O = mns H3 O := by
      funext z
      by_cases hz : z ∈ O
      · rw [mns_in hz, mns_in hz]
      · rw [mns_out hz, mns_out hz, upd_ne (fun w => hz (by rw [w]; exact hq3))]
    refine ⟨p2, xs', i, m, rfl, (Res.bo e2 ws).int', hH', by rw [b'.len]; exact hj, s _ p O _ σ ?_⟩
    rw [List.set_set] at ew
    have := ew.dw (ds := ds.set m d) (List.getElem?_set_self hn) (by rw [em]; exact b'.setW bv)
    rwa [List.set_set] at this
/-- from now on it is not written -/
theorem Env.freezeW (e : Env c H0 O H σ Γ) {i : Nat} (h : Γ[i]? = some (some (.w ds))) : ∃ O', Env c H0 O' H σ (Γ.set i (some (.v (.list ds)))) := by
  obtain ⟨fp, hr, nd, sub⟩ := e.rep
  obtain ⟨x, f, pre, post, h1, h2, h3, h4⟩ := hr.nth h
  obtain ⟨a, xs, rfl, rfl, ha, b⟩ := h2
  subst h3
  have hm : ∀ z, z ∈ O.filter (fun z => !decide (z = a)) ↔ z ∈ O ∧ z ≠ a := fun z => by simp
  have sm : Same (mns H O) (mns H (O.filter fun z => !decide (z = a))) := mns_sub fun z hz => ((hm z).mp hz).1
  have dis : ∀ z ∈ pre ++ post, z ≠ a := fun z hz w => by
    subst w
    have n2 := (List.nodup_append.mp nd).2.1
    rcases List.mem_append.mp hz with u | u
    · exact (List.nodup_append.mp nd).2.2 z u z (by simp) rfl
    · exact (List.nodup_append.mp n2).2.2 z (by simp) z u rfl
  refine ⟨O.filter fun z => !decide (z = a), ⟨e.r0.tr (Rr.same sm), e.j.same sm, fun z hz => e.fr z ((hm z).mp hz).1, fun z hz => e.dm z ((hm z).mp hz).1, ?_⟩⟩
  have hσ : σ.set i (some (.ref a)) = σ := by
    obtain ⟨hlt, e1⟩ := List.getElem?_eq_some_iff.mp h1
    rw [← e1]
    exact List.set_getElem_self hlt
  have hb : Bo c (mns H (O.filter fun z => !decide (z = a))) (.ref a) (.list ds) := by
    refine .lst (e.okO a (sub a (by simp))) (.inl (.inl ?_)) (b.same sm)
    rw [mns_out fun z => ((hm a).mp z).2 rfl]
    exact ha
  have := h4 (O.filter fun z => !decide (z = a)) H (some (.ref a)) (some (.v (.list ds))) [] (fun y t g q z => ?_) ⟨rfl, .ref a, rfl, hb⟩
  · rw [hσ] at this
    exact ⟨_, this, nd.sublist (by simp), fun z hz => (hm z).mpr ⟨sub z (by simp at hz ⊢; rcases hz with w | w <;> simp [w]), dis z (by simpa using hz)⟩⟩
  · cases t with
    | none => exact z
    | some t =>
      cases t with
      | v d => exact ⟨z.1, z.2.elim fun v hv => ⟨v, hv.1, hv.2.same sm⟩⟩
      | o d => exact z
      | r y => exact z
      | d u => exact z
      | w ds => exact z.elim fun a ⟨xs, w1, w2, w3, w4⟩ => ⟨a, xs, w1, w2, w3, w4.same sm⟩
theorem s_freezeW (h : Γ[n]? = some (some (.w ds))) (hs : Sd c t (Γ.set n (some (.v (.list ds)))) P) : Sd c t Γ P := fun H0 O H σ D e s => by
  obtain ⟨O', e'⟩ := e.freezeW h
  exact hs H0 O' H σ D e' s
end
end Lm


/-! xs[i] = ys.pop(k); [rows[x].pop(0) for x in ..] -/
namespace Lm
open PySem PySem.Spec PyProof.Rows L2
section
variable {c : Ct} {H H' H0 H1 H2 H3 : Hp} {O : List Addr} {σ : L2.St} {Γ Γ' Γ1 : List (Option Rs)}
variable {te ta tb tx : TE} {tr : TA} {u : TS} {k ka kb : Kd} {d x y z : PyData} {i j : Int} {ds es : List PyData} {P : Out → Prop}
theorem Env.bareR (e : Env c H0 O H σ Γ) (hb : bareB Γ = true) : Reps c O H σ Γ [] := let ⟨_, hr, _⟩ := e.rep; hr.bareM (D := 0) e.j Rr.rf hb
theorem Env.take (e : Env c H0 O H σ Γ) (hb : bareB Γ = true) {n : Nat} {a : Addr} {ns : List Int} (ha : a ∈ O) (h : H a = some (.lst (ns.map V.int))) : Env c H0 O H (σ.set n (some (.ref a))) (Γ.set n (some (.o (.list (ns.map .int))))) := by
  have hr := e.bareR hb
  refine ⟨e.r0, e.j, e.fr, e.dm, ?_⟩
  by_cases hi : n < Γ.length
  · obtain ⟨x, f, pre, post, h1, h2, h3, h4⟩ := hr.nth (s := Γ[n]) (List.getElem?_eq_getElem hi)
    have h3' := h3.symm
    rw [List.append_eq_nil_iff, List.append_eq_nil_iff] at h3'
    obtain ⟨rfl, rfl, rfl⟩ := h3'
    exact ⟨[a], h4 O H _ _ [a] (fun _ _ _ _ z => z) ⟨.ref a, rfl, .lst h (FoAll.leaves (flatAll_ints _) (BoAll.ofInts _))⟩, by simp, fun b hb => by cases List.mem_singleton.mp hb; exact ha⟩
  · have hs : ¬ n < σ.length := by rw [hr.len]; exact hi
    rw [List.set_eq_of_length_le (by omega), List.set_eq_of_length_le (by omega)]
    exact ⟨[], hr, List.nodup_nil, fun a h => nomatch h⟩
/-! ### rows from which the first ones are taken -/
end
end Lm


/-! who raises what among the triples (k34) -/
namespace Lm
open PySem PySem.Spec PyProof.Rows L2
section
variable {K : PySem.W.Frag} {C : Addr} {H0 : Hp} {Γ : List (Option Rs)} {σ : L2.St} {te : TE} {tt : TT} {t u : TS} {nm : Str}
end
/-! what is no allocation, no assignment of it -/
theorem smallT_no {x : PyData} (h : ∀ es, x ≠ .tuple es) : SmallT x := fun es e => absurd e (h es)
theorem smallT_tup {es : List PyData} (h : es.length ≤ 1000000) : SmallT (.tuple es) := fun es' e => by cases e; exact h
def NoAl (v b : Int) (x : PyData) : Prop := SmallT x ∧ isAlloc x v b = false
theorem noAl_int {v b : Int} {es : List PyData} (hl : es.length ≤ 1000000) (h : areInts (.tuple es) 0 b = false) : NoAl v b (.tuple es) := ⟨smallT_tup hl, by unfold isAlloc; rw [h]; rfl⟩
theorem noAl_ints {v b : Int} {ns : List Int} (hl : ns.length ≤ 1000000) (h : ¬ ((ns.length : Int) = v ∧ ns.sum = b)) : NoAl v b (tupD ns) := by
  refine ⟨small_ints hl, ?_⟩
  unfold isAlloc
  rw [lenT_ints, sumT_ints]
  by_cases q : (ns.length : Int) = v
  · have : ¬ ns.sum = b := fun z => h ⟨q, z⟩
    simp [this]
  · simp [q]
theorem areInts_neg {ns : List Int} {lo hi : Int} {x : Int} (hm : x ∈ ns) (h : x < lo ∨ hi < x) : areInts (tupD ns) lo hi = false := by
  cases q : areInts (tupD ns) lo hi with
  | false => rfl
  | true =>
    exfalso
    obtain ⟨ms, e, hn⟩ := areInts_ints q
    have : ms = ns := ((List.map_inj_right fun a c z => PyData.int.inj z).mp (PyData.tuple.inj e)).symm
    subst this
    have := hn x hm
    omega
end Lm


/-! isinstance of a caught error that keeps a text; a handler for its base class -/
namespace Lm
open PySem PySem.Spec PyProof.Rows L2
/-- isinstance(e, c): a the caught error, cls its class, d its dict -/
def rIsX (K : PySem.W.Frag) (D a : Addr) (cls : Value) (d : Option Addr) : List V → Hp → VK → Prop := fun xs H Q => ∃ (c : V) (cv : Value) (b : Bool) (dd : Addr) (fs : List (Str × V)), xs = [.ref a, c] ∧ cls = .ref D ∧ d = some dd ∧ H dd = some (.xd fs) ∧ (∀ u, RelV c u → u = cv) ∧ PySem.W.kitOne K (.ref D) cv = some b ∧ Q (.bl b) H
theorem call_isX {X : Cx} {a D : Addr} {oe : Obj} {cls : Value} {d : Option Addr} {pn : List (Addr × Obj)} (C : ExcC X.K D) (hz : Zc cls d oe) (hf : ∃ vs, oe.data = .fields vs) : CallR (X.suite a ((a, oe) :: pn)) (.builtin "isinstance") (rIsX X.K D a cls d) := by
  intro pins s σ H xs us Q I r h
  obtain ⟨c, cv, b, dd, fs, rfl, rfl, rfl, ea, hcv, e, q⟩ := h
  cases r with
  | cons rx rr =>
    cases rr with
    | cons rt rr =>
      cases rr
      cases rx
      have ec := hcv _ rt
      subst ec
      obtain ⟨hget, _⟩ := I.pin (a, oe) (List.mem_append.mpr (.inl List.mem_cons_self))
      obtain ⟨vs, hv⟩ := hf
      have hx : ObjOk X.prog X.w H s.heap dd (.xd fs) := I.hok dd _ ea
      obtain ⟨mA, hns, hr⟩ := hx
      obtain ⟨od, ho, hl⟩ := lookIn_ns hns
      have J : PySem.W.InstAt s.heap a oe D (some od) := ⟨hget, hz.1, by unfold PySem.W.notCls; rw [hv] <;> rfl, by rw [hz.2]; exact ho⟩
      have cl : (PySem.W.clsIn X.K D).isSome = true := by obtain ⟨cd, hc, _⟩ := PySem.W.any_some C.hd; rw [hc]; rfl
      exact PySem.W.kia_one (PySem.W.kitx_exc (od := some od) cl C.hg C.hk C.hs C.ha C.hn C.ht C.hm) I.kIn J e (fun z => nomatch z) fun tk => ⟨.bl b, H, I.kept (t' := tk) fun _ _ z => z, rfl, q⟩
/-- what a handler for the base class asks of the error's class C and of the base class L -/
structure ExcH (K : PySem.W.Frag) (mg : Str → Option Value) (C L : Addr) : Prop where
  isC : ExcC K C
  hL : mg "LeastError" = some (.ref L)
  exL : PySem.W.exmOne K (.ref C) (.ref L) = some true
  kV : PySem.W.kitOne K (.ref C) (.type "ValueError") = some true
theorem kit_val {K : PySem.W.Frag} {C : Addr} (h : PySem.W.subIn K (.ref C) (.type "ValueError") = some true) : PySem.W.kitOne K (.ref C) (.type "ValueError") = some true := by
  unfold PySem.W.kitOne
  rw [if_neg (by simp)]
  unfold PySem.W.kitCls
  show (if PySem.W.kitMeta "ValueError" = true then _ else _) = _
  rw [if_pos (by decide +kernel)]
  exact h
theorem kit_self {K : PySem.W.Frag} {C : Addr} : PySem.W.kitOne K (.ref C) (.ref C) = some true := by
  unfold PySem.W.kitOne
  rw [if_pos (by simp)]
/-! a call of what answers or raises, in a body -/
section
variable {K : PySem.W.Frag} {C : Addr} {R : List PyData → Str → Prop} {pre : Pre} {E : XK} {W : WX} {te : TE} {ta : TA} {Γ : List (Option Rs)} {ds es : List PyData} {d : PyData} {P : Out → Prop} {c : Ct}
theorem s_retC (h : EvA (pc K) ta Γ false ds) (hp : pre ds .v d) (p : P (.rt .v d)) : Sd (pc K) (tRet (tCall (spD K pre) [] E ta)) Γ P := fun H0 O H σ D e s =>
  h H0 O H σ e _ fun vs H1 r b => ⟨ds, .v, d, by rw [List.append_nil]; exact b.pure, hp, fun v H2 sm rt => s _ p v H2 (e.rH.tr (r.tr (Rr.same sm))) rt⟩
theorem x_skip {tt : TT} {t u : TS} {H0 : Hp} (h : EvT c tt Γ false) (p : SdX c H0 u Γ) : SdX c H0 (tSeq (tIfS tt t tNext) u) Γ := fun O H σ D e => h H0 O H σ e _ fun H1 r => by
  show if false = true then _ else _
  rw [if_neg (by decide)]
  exact p O H1 σ D (e.on r)
theorem x_take {tt : TT} {t u : TS} {H0 : Hp} (h : EvT c tt Γ true) (p : SdX c H0 t Γ) : SdX c H0 (tSeq (tIfS tt t tNext) u) Γ := fun O H σ D e => h H0 O H σ e _ fun H1 r => by
  show if true = true then _ else _
  rw [if_pos rfl]
  exact p O H1 σ _ (e.on r)
theorem was_least {P : Program} {w : World} {mg : Str → Option Value} {base : Heap} {i : Nat} {Wout : WX} {D : Ends} {dx L : Addr} {H1 : Hp} {s s2 nm : Str} {σ : L2.St} (X : Exc1 P w K mg base "BadValue" "name" C) (XH : ExcH K mg C L) (hi : i < σ.length) (hdx : H1 dx = some (.xd [("name", .str nm)]))
    (q : ∀ p H2, Same H1 H2 → TpN K H2 p [.str s, .str nm] → D.rt (.ref p) H2) :
    wAs K (.ref L) i (fun a cls d => tSeq (tIfS (tAnd (tB (tCB (rIsX K C a cls d) (tCons (tVar i) (tCons (tC (.ref C)) tNil)))) (tB (tCB (rIsX K C a cls d) (tCons (tVar i) (tCons (tC (.ty "ValueError")) tNil)))))
      (tRet (tTupN (tCons (tC (.str s)) (tCons (tXf a cls d C "name" (tVar i)) tNil)))) tNext) (tRet (tTupN (tCons (tC (.str s2)) tNil)))) Wout D (.ref C) (some dx) σ H1 := by
  refine ⟨true, XH.exL, fun _ a ha => ?_, fun w => nomatch w⟩
  have v0 : (σ.set i (some (.ref a)))[i]? = some (some (.ref a)) := List.getElem?_set_self hi
  refine ⟨.ref a, v0, .ref C, .ref C, true, dx, _, rfl, rfl, rfl, hdx, fun u h => h, kit_self, true, rfl, ?_⟩
  show if true = true then _ else _
  rw [if_pos rfl]
  refine ⟨.ref a, v0, .ty "ValueError", .type "ValueError", true, dx, _, rfl, rfl, rfl, hdx, fun u h => h, XH.kV, true, rfl, ?_⟩
  show if true = true then _ else _
  rw [if_pos rfl]
  exact ⟨.ref a, v0, rfl, rfl, dx, _, .str nm, rfl, hdx, rfl, by show 2 ≤ sizeLine; decide, newTk (c := pc K) fun p H2 hp sm tp => q p H2 sm tp⟩
/-- a new list whose items stay, handed on at once -/
theorem EvW.kb (h : EvW c te Γ ds) : Ev c te Γ .b (.list ds) := fun H0 O H σ e Q q =>
  h H0 O H σ e _ fun p xs H2 hp r h2 rm b => q _ _ r (show Bo c H2 (.ref p) (.list ds) from .lst (fun st l q z => by
    obtain ⟨ns, x, k, g1, _⟩ := e.jH st l q
    rw [← z, hp] at g1
    cases g1) (.inl (.inl h2)) (b.same mns_same))
end
/-! who raises what among the rules (k61) -/
def RcSz (ds : List PyData) (nm : Str) : Prop := ∃ x y, ds = [x, y] ∧ ((isIntD x 1 5 = false ∧ nm = "variants") ∨ ∃ v : Nat, x = .int (v : Int) ∧ 1 ≤ v ∧ v ≤ 5 ∧ isIntD y 0 20 = false ∧ nm = "buckets")
theorem RcSz_len {ds nm} (h : RcSz ds nm) : ds.length = 2 := by obtain ⟨x, y, rfl, _⟩ := h; rfl
def RcIr (ds : List PyData) (nm : Str) : Prop := ∃ x y z, ds = [z, x, y] ∧ RcSz [x, y] nm
theorem RcIr_len {ds nm} (h : RcIr ds nm) : ds.length = 3 := by obtain ⟨x, y, z, rfl, _⟩ := h; rfl
def RcRu (ds : List PyData) (nm : Str) : Prop := ∃ x y z, ds = [x, y, z] ∧ (RcSz [x, y] nm ∨ ∃ v b : Nat, x = .int (v : Int) ∧ y = .int (b : Int) ∧ 1 ≤ v ∧ v ≤ 5 ∧ b ≤ 20 ∧ NoR z v b ∧ nm = "rule")
theorem RcRu_len {ds nm} (h : RcRu ds nm) : ds.length = 3 := by obtain ⟨x, y, z, rfl, _⟩ := h; rfl
def RcLe (ds : List PyData) (nm : Str) : Prop := ∃ x y z f s u, ds = [x, y, z, f, s, u] ∧ (RcRu [x, y, z] nm ∨ ∃ (R : List Pr) (v b : Nat), x = .int (v : Int) ∧ y = .int (b : Int) ∧ z = .tuple (R.map rlD) ∧ Rul R (v : Int) (b : Int) ∧ ((isIntD f 0 ((R.length : Int) - 1) = false ∧ nm = "first") ∨
  ∃ i : Nat, f = .int (i : Int) ∧ i < R.length ∧ ((isIntD s 0 ((R.length : Int) - 1) = false ∧ nm = "second") ∨ ∃ j : Nat, s = .int (j : Int) ∧ j < R.length ∧ isIntD u 0 ((b : Int) - 1) = false ∧ nm = "bucket")))
theorem RcLe_len {ds nm} (h : RcLe ds nm) : ds.length = 6 := by obtain ⟨x, y, z, f, s, u, rfl, _⟩ := h; rfl
def RcS4 (ds : List PyData) (nm : Str) : Prop := ∃ x y z l, ds = [x, y, z, l] ∧ RcRu [x, y, z] nm
theorem RcS4_len {ds nm} (h : RcS4 ds nm) : ds.length = 4 := by obtain ⟨x, y, z, l, rfl, _⟩ := h; rfl
def RcCo (ds : List PyData) (nm : Str) : Prop := ∃ x y z a, ds = [x, y, z, a] ∧ (RcRu [x, y, z] nm ∨ ∃ (R : List Pr) (v b : Nat), x = .int (v : Int) ∧ y = .int (b : Int) ∧ z = .tuple (R.map rlD) ∧ Rul R (v : Int) (b : Int) ∧ NoAl (v : Int) (b : Int) a ∧ nm = "allocation")
theorem RcCo_len {ds nm} (h : RcCo ds nm) : ds.length = 4 := by obtain ⟨x, y, z, l, rfl, _⟩ := h; rfl
def RcC5 (ds : List PyData) (nm : Str) : Prop := ∃ x y z a e, ds = [x, y, z, a, e] ∧ RcCo [x, y, z, a] nm
theorem RcC5_len {ds nm} (h : RcC5 ds nm) : ds.length = 5 := by obtain ⟨x, y, z, l, e, rfl, _⟩ := h; rfl
def RcAsk (ds : List PyData) (nm : Str) : Prop := ∃ (w : Nat) (row : List PyData), ds = [.int (w : Int), .list row] ∧ w ≤ 9 ∧ ((w < 5 ∧ RcRu row nm) ∨ (w = 5 ∧ RcLe row nm) ∨ (6 ≤ w ∧ RcCo row nm))
theorem RcAsk_len {ds nm} (h : RcAsk ds nm) : ds.length = 2 := by obtain ⟨w, row, rfl, _⟩ := h; rfl
/-- good arguments, and what is answered -/
def AskP (w : Nat) (row : List PyData) (d : PyData) : Prop := ∃ (R : List Pr) (v b : Nat), Rul R (v : Int) (b : Int) ∧
  ((w < 5 ∧ row = [.int (v : Int), .int (b : Int), .tuple (R.map rlD)] ∧ ((w = 0 ∧ d = misF (R.map (·.1)) v) ∨ (w = 1 ∧ d = leftF R b) ∨ (w = 2 ∧ d = lorD R v b) ∨ (w = 3 ∧ d = .bool (srvB R v b .none)) ∨ (w = 4 ∧ d = opD (bstW (rowsW R (prL R.length)))))) ∨
   (w = 5 ∧ ∃ i j l : Nat, row = [.int (v : Int), .int (b : Int), .tuple (R.map rlD), .int (i : Int), .int (j : Int), .int (l : Int)] ∧ i < R.length ∧ j < R.length ∧ l < b ∧ d = .bool (leftB (gR R i) (gR R j) l)) ∨
   (6 ≤ w ∧ w ≤ 9 ∧ ∃ A : List Int, row = [.int (v : Int), .int (b : Int), .tuple (R.map rlD), tupD A] ∧ Alc A (v : Int) (b : Int) ∧ ((w = 6 ∧ d = .tuple ((alwT R A v b).map tupD)) ∨ (w = 7 ∧ d = opD (conO R A v b)) ∨ (w = 8 ∧ d = whyD R A v b) ∨ (w = 9 ∧ d = .bool (accB R A v b .none)))))
def sp__law_ask61 (K : PySem.W.Frag) : Sp := spD K fun ds k d => ∃ (w : Nat) (row : List PyData), ds = [.int (w : Int), .list row] ∧ AskP w row d ∧ k = .v
def sp__law_told61 (K : PySem.W.Frag) : Sp := spD K fun ds k d => ∃ (w : Nat) (row : List PyData), ds = [.int (w : Int), .list row] ∧ k = .v ∧ (((∃ dd, AskP w row dd) ∧ d = .tuple [.str "fine"]) ∨ ∃ nm, RcAsk [.int (w : Int), .list row] nm ∧ d = .tuple [.str "bad", .str nm])
/-- each row that is good before i, bad at i, and good or bad behind -/
def BadR (w : Nat) (nms : List Str) (gd bd : List PyData) : Prop := gd.length = nms.length ∧ bd.length = nms.length ∧ nms.length ≤ 6 ∧ (∀ s ∈ nms, SeqAt.shaped (.tuple [.str (Str.ofString "bad"), .str s]) = true) ∧
  ∀ i, i < nms.length → ∀ row : List PyData, row.length = nms.length → (∀ j, j < i → row[j]? = gd[j]?) → row[i]? = bd[i]? → (∀ j, i < j → row[j]? = gd[j]? ∨ row[j]? = bd[j]?) → RcAsk [.int (w : Int), .list row] (nms.getD i "")
def sp__law_named61 (K : PySem.W.Frag) : Sp := spS K fun ds k P => ∃ (w : Nat) (nms : List Str) (gd bd : List PyData), ds = [.int (w : Int), .list (nms.map .str), .list gd, .list bd] ∧ (∃ dd, AskP w gd dd) ∧ BadR w nms gd bd ∧ k = .v ∧ P = fun d => d = .bool true
end Lm


/-! lists of one's own with drawn items; the rule of k61 and what is none -/
namespace Lm
open PySem PySem.Spec PyProof.Rows L2
section
variable {c : Ct} {Γ : List (Option Rs)} {te : TE} {tr : TA} {u : TS} {n : Nat} {ds : List PyData} {P : Out → Prop} {Pd : List PyData → Prop} {Pe : PyData → Prop}
/-- te makes a new list whose items stay: one of several -/
def EvWN (c : Ct) (te : TE) (Γ : List (Option Rs)) (Pd : List PyData → Prop) : Prop :=
  ∀ H0 O H σ, Env c H0 O H σ Γ → ∀ Q : VK, (∀ p xs ds H2, Pd ds → H p = none → Rr c H H2 → H2 p = some (.lst xs) → Rr c (mns H O) (mns H2 (p :: O)) → BoAll c (mns H2 (p :: O)) xs ds → Q (.ref p) H2) → te σ H Q
theorem w_lstN (h : EvAN c tr Γ Pd) (hl : ∀ ds, Pd ds → ds.length ≤ 1000000) : EvWN c (tLst tr) Γ Pd := fun H0 O H σ e Q q =>
  h H0 O H σ e _ fun vs ds H1 pd r s => ⟨by rw [s.len]; exact sizeOk (hl ds pd), fun p hp => newW1 e r hp s fun p xs H2 => q p xs ds H2 pd⟩
theorem q_asgWN (h : EvWN c te Γ Pd) (p : ∀ ds, Pd ds → Sd c u (Γ.set n (some (.w ds))) P) : Sd c (tSeq (tAsg te (gName n)) u) Γ P := fun H0 O H σ D e s =>
  h H0 O H σ e _ fun a xs ds H2 pd ha r h2 rm b => p ds pd H0 (a :: O) H2 _ D (e.newW ha r h2 rm b) s
theorem s_appWN (hx : Γ[n]? = some (some (.w ds))) (h : EvN c te Γ .v Pe) (hl : ds.length < 1000000) (p : ∀ d, Pe d → P (.nx (Γ.set n (some (.w (ds ++ [d])))))) : Sd c (tDrop (tBM c.K "list" rAppend (tVar n) (tCons te tNil))) Γ P := fun H0 O H σ D e s => by
  obtain ⟨a, xs, ha, hH, hO, b, _⟩ := e.wd hx
  refine ⟨.ref a, ha, .inl ⟨rfl, xs, .inl (.inl hH)⟩, h H0 O H σ e _ fun v d H2 pd r rs => ?_⟩
  have e2 := e.on r
  obtain ⟨a', xs', ha', hH', hO', b', ed⟩ := e2.wd hx
  have : a' = a := by rw [ha] at ha'; cases ha'; rfl
  subst this
  have bv : Bo c (mns H2 O) v d := rs
  have hn : n < Γ.length := (List.getElem?_eq_some_iff.mp hx).1
  obtain ⟨p2, hp2, hq2, hq3, ew⟩ := ed.writeD (w := .lst (xs' ++ [v])) (List.getElem?_set_self hn) trivial
  have : p2 = a' := by rw [ha] at hp2; cases hp2; rfl
  subst this
  have em : mns (upd H2 p2 (.lst (xs' ++ [v]))) O = mns H2 O := by
    funext z
    by_cases hz : z ∈ O
    · rw [mns_in hz, mns_in hz]
    · rw [mns_out hz, mns_out hz, upd_ne (fun w => hz (by rw [w]; exact hq3))]
  refine ⟨p2, xs', v, rfl, rfl, hH', by rw [b'.len, sizeLine_eq]; omega, s _ (p d pd) O _ σ ?_⟩
  rw [List.set_set] at ew
  have := ew.dw (ds := ds ++ [d]) (List.getElem?_set_self hn) (by rw [em]; exact b'.app (.cons bv .nil))
  rwa [List.set_set] at this
end
/-! the rule of two pairs -/
def zr (n : Nat) : List Int := List.replicate n 0
def p61a (v b : Nat) : Pr := ((b : Int) :: 0 :: zr (v - 2), zr b)
def p61b (v b : Nat) : Pr := (((b : Int) - 1) :: 1 :: zr (v - 2), 1 :: zr (b - 1))
def okPB (p : Pr) (v b : Int) : Bool := decide ((p.1.length : Int) = v) && (decide (p.1.sum = b) && (p.1.all (fun x => decide (0 ≤ x ∧ x ≤ b)) && (decide ((p.2.length : Int) = b) && (p.2.all (fun x => decide (0 ≤ x ∧ x < v)) && decide (countsI p.2 v = p.1)))))
theorem rul61_all : ((List.range 6).all fun v => (List.range 21).all fun b => decide (v < 2) || decide (b < 1) || (okPB (p61a v b) v b && okPB (p61b v b) v b)) = true := by decide +kernel
theorem okPB_ok {p : Pr} {v b : Int} (h : okPB p v b = true) : OkP p v b := by
  unfold okPB at h
  simp only [Bool.and_eq_true, decide_eq_true_eq, List.all_eq_true] at h
  obtain ⟨h1, h2, h3, h4, h5, h6⟩ := h
  exact ⟨⟨h1, h2, fun n hn => (h3 n hn).1⟩, h4, h5, h6⟩
def R61 (v b : Nat) : List Pr := [p61a v b, p61b v b]
theorem ok61 {v b : Nat} (v2 : 2 ≤ v) (v5 : v ≤ 5) (b1 : 1 ≤ b) (b20 : b ≤ 20) : OkP (p61a v b) (v : Int) (b : Int) ∧ OkP (p61b v b) (v : Int) (b : Int) := by
  have h := List.all_eq_true.mp (List.all_eq_true.mp rul61_all v (List.mem_range.mpr (by omega))) b (List.mem_range.mpr (by omega))
  rw [decide_eq_false (by omega), decide_eq_false (by omega), Bool.false_or, Bool.false_or, Bool.and_eq_true] at h
  exact ⟨okPB_ok h.1, okPB_ok h.2⟩
theorem rul61 {v b : Nat} (v2 : 2 ≤ v) (v5 : v ≤ 5) (b1 : 1 ≤ b) (b20 : b ≤ 20) : Rul (R61 v b) (v : Int) (b : Int) := by
  obtain ⟨h1, h2⟩ := ok61 v2 v5 b1 b20
  refine ⟨by omega, by omega, by omega, by omega, by show 2 ≤ 20; decide, fun p hp => ?_, ?_⟩
  · rcases List.mem_cons.mp hp with rfl | hp
    · exact h1
    · rw [List.mem_singleton.mp hp]; exact h2
  · show [((b : Int) :: 0 :: zr (v - 2)), (((b : Int) - 1) :: 1 :: zr (v - 2))].Nodup
    simp
theorem bad61 {v b : Nat} (v2 : 2 ≤ v) (v5 : v ≤ 5) (b1 : 1 ≤ b) (b20 : b ≤ 20) {d : PyData}
    (h : d = .list ((R61 v b).map rlD) ∨ d = .tuple ((R61 v b).map rlD ++ Lm.cutD ((R61 v b).map rlD) none (some 1)) ∨ d = .tuple [.tuple (Lm.cutD [tupD (p61a v b).1, tupD (p61a v b).2] none (some 1))] ∨ d = .tuple [.tuple [tupD (p61a v b).2, tupD (p61a v b).1]] ∨ d = .none) : NoR d v b := by
  obtain ⟨h1, h2⟩ := ok61 v2 v5 b1 b20
  rcases h with rfl | rfl | rfl | rfl | rfl
  · exact .inl fun es e => nomatch e
  · refine .inr (.inr (.inr ⟨[p61a v b, p61b v b, p61a v b], rfl, by show 3 ≤ 20; decide, fun p hp => ?_, fun nd => ?_⟩))
    · simp only [List.mem_cons, List.not_mem_nil, or_false] at hp
      rcases hp with rfl | rfl | rfl
      · exact h1
      · exact h2
      · exact h1
    · simp at nd
  · exact .inr (.inr (.inl ⟨_, rfl, .inr (.inl ⟨_, rfl, by show (1 : Nat) ≠ 2; decide⟩)⟩))
  · refine .inr (.inr (.inl ⟨_, rfl, .inr (.inr (.inl ⟨_, _, rfl, ?_⟩))⟩))
    have := noAl_ints (v := (v : Int)) (b := (b : Int)) (ns := (p61a v b).2) (by show (zr b).length ≤ 1000000; simp [zr]; omega) (fun z => by
      have z2 : (zr b).sum = (b : Int) := z.2
      have : (zr b).sum = 0 := by simp [zr]
      omega)
    exact this
  · exact .inl fun es e => nomatch e
/-- what is no allocation -/
theorem nal61 {v b : Nat} (v2 : 2 ≤ v) (v5 : v ≤ 5) (b1 : 1 ≤ b) (b20 : b ≤ 20) {d : PyData}
    (h : d = tupD (((b : Int) + 1) :: 0 :: zr (v - 2)) ∨ d = tupD ((b : Int) :: zr (v - 2)) ∨ d = .list [.int (b : Int), .int 0] ∨ d = tupD (((b : Int) + 1) :: -1 :: zr (v - 2))) : NoAl (v : Int) (b : Int) d := by
  have lz : (zr (v - 2)).length = v - 2 := by simp [zr]
  have sz : (zr (v - 2)).sum = 0 := by simp [zr]
  rcases h with rfl | rfl | rfl | rfl
  · exact noAl_ints (by simp [lz]; omega) (fun z => by have := z.2; simp [sz] at this; omega)
  · exact noAl_ints (by simp [lz]; omega) (fun z => by have := z.1; simp [lz] at this; omega)
  · exact ⟨smallT_no (fun es e => nomatch e), by rfl⟩
  · refine noAl_int (es := (((b : Int) + 1) :: -1 :: zr (v - 2)).map .int) (by simp [lz]; omega) (areInts_neg (x := -1) (by simp) (.inl (by omega)))
/-! rows of arguments -/
theorem get3 {α : Type} {l : List α} (h : l.length = 3) : ∃ x y z, l = [x, y, z] := match l, h with | [x, y, z], _ => ⟨x, y, z, rfl⟩
theorem get4 {α : Type} {l : List α} (h : l.length = 4) : ∃ x y z u, l = [x, y, z, u] := match l, h with | [x, y, z, u], _ => ⟨x, y, z, u, rfl⟩
theorem get6 {α : Type} {l : List α} (h : l.length = 6) : ∃ x y z p q r, l = [x, y, z, p, q, r] := match l, h with | [x, y, z, p, q, r], _ => ⟨x, y, z, p, q, r, rfl⟩
theorem ru_bad {v b : Nat} {nv nb nr x y z : PyData} (v1 : 1 ≤ v) (v5 : v ≤ 5) (b20 : b ≤ 20) (h1 : isIntD nv 1 5 = false) (h2 : isIntD nb 0 20 = false) (h3 : NoR nr v b) {i : Nat}
    (h : (i = 0 ∧ x = nv) ∨ (i = 1 ∧ x = .int (v : Int) ∧ y = nb) ∨ (i = 2 ∧ x = .int (v : Int) ∧ y = .int (b : Int) ∧ z = nr)) : RcRu [x, y, z] ((["variants", "buckets", "rule"] : List Str).getD i "") := by
  rcases h with ⟨rfl, rfl⟩ | ⟨rfl, rfl, rfl⟩ | ⟨rfl, rfl, rfl, rfl⟩
  · exact ⟨_, _, _, rfl, .inl ⟨_, _, rfl, .inl ⟨h1, rfl⟩⟩⟩
  · exact ⟨_, _, _, rfl, .inl ⟨_, _, rfl, .inr ⟨v, rfl, v1, v5, h2, rfl⟩⟩⟩
  · exact ⟨_, _, _, rfl, .inr ⟨v, b, rfl, rfl, v1, v5, b20, h3, rfl⟩⟩
theorem sh_bad {s : String} : SeqAt.shaped (.tuple [.str (Str.ofString "bad"), .str (Str.ofString s)]) = true := shapedS2
def nms3 : List Str := ["variants", "buckets", "rule"]
def nms6 : List Str := ["variants", "buckets", "rule", "first", "second", "bucket"]
def nms4 : List Str := ["variants", "buckets", "rule", "allocation"]
theorem badR3 {w v b : Nat} {R : List Pr} {nv nb nr : PyData} (hw : w < 5) (v1 : 1 ≤ v) (v5 : v ≤ 5) (b20 : b ≤ 20) (h1 : isIntD nv 1 5 = false) (h2 : isIntD nb 0 20 = false) (h3 : NoR nr v b) : BadR w nms3 [.int (v : Int), .int (b : Int), .tuple (R.map rlD)] [nv, nb, nr] := by
  refine ⟨rfl, rfl, by decide, fun s hs => ?_, fun i hi row hl e1 e2 e3 => ?_⟩
  · simp only [nms3, List.mem_cons, List.not_mem_nil, or_false] at hs
    rcases hs with rfl | rfl | rfl <;> exact sh_bad
  · obtain ⟨x, y, z, rfl⟩ := get3 hl
    refine ⟨w, _, rfl, by omega, .inl ⟨hw, ru_bad (i := i) v1 v5 b20 h1 h2 h3 ?_⟩⟩
    have hi : i < 3 := hi
    match i, hi with
    | 0, _ => exact .inl ⟨rfl, Option.some.inj e2⟩
    | 1, _ => exact .inr (.inl ⟨rfl, Option.some.inj (e1 0 (by omega)), Option.some.inj e2⟩)
    | 2, _ => exact .inr (.inr ⟨rfl, Option.some.inj (e1 0 (by omega)), Option.some.inj (e1 1 (by omega)), Option.some.inj e2⟩)
theorem badR4 {w v b : Nat} {R : List Pr} {A : List Int} {nv nb nr na : PyData} (h6 : 6 ≤ w) (h9 : w ≤ 9) (hR : Rul R (v : Int) (b : Int)) (h1 : isIntD nv 1 5 = false) (h2 : isIntD nb 0 20 = false) (h3 : NoR nr v b) (h4 : NoAl (v : Int) (b : Int) na) : BadR w nms4 [.int (v : Int), .int (b : Int), .tuple (R.map rlD), tupD A] [nv, nb, nr, na] := by
  have v1 := hR.v1
  have v5 := hR.v5
  have b20 := hR.b20
  refine ⟨rfl, rfl, by decide, fun s hs => ?_, fun i hi row hl e1 e2 e3 => ?_⟩
  · simp only [nms4, List.mem_cons, List.not_mem_nil, or_false] at hs
    rcases hs with rfl | rfl | rfl | rfl <;> exact sh_bad
  · obtain ⟨x, y, z, u, rfl⟩ := get4 hl
    refine ⟨w, _, rfl, by omega, .inr (.inr ⟨h6, x, y, z, u, rfl, ?_⟩)⟩
    have hi : i < 4 := hi
    match i, hi with
    | 0, _ => exact .inl (ru_bad (i := 0) (by omega) (by omega) (by omega) h1 h2 h3 (.inl ⟨rfl, Option.some.inj e2⟩))
    | 1, _ => exact .inl (ru_bad (i := 1) (by omega) (by omega) (by omega) h1 h2 h3 (.inr (.inl ⟨rfl, Option.some.inj (e1 0 (by omega)), Option.some.inj e2⟩)))
    | 2, _ => exact .inl (ru_bad (i := 2) (by omega) (by omega) (by omega) h1 h2 h3 (.inr (.inr ⟨rfl, Option.some.inj (e1 0 (by omega)), Option.some.inj (e1 1 (by omega)), Option.some.inj e2⟩)))
    | 3, _ => exact .inr ⟨R, v, b, Option.some.inj (e1 0 (by omega)), Option.some.inj (e1 1 (by omega)), Option.some.inj (e1 2 (by omega)), hR, by rw [show u = na from Option.some.inj e2]; exact h4, rfl⟩
theorem badR6 {v b i1 j1 : Nat} {R : List Pr} {nv nb nr nf ns nu l1 : PyData} (hR : Rul R (v : Int) (b : Int)) (hi1 : i1 < R.length) (hj1 : j1 < R.length) (h1 : isIntD nv 1 5 = false) (h2 : isIntD nb 0 20 = false) (h3 : NoR nr v b)
    (h4 : isIntD nf 0 ((R.length : Int) - 1) = false) (h5 : isIntD ns 0 ((R.length : Int) - 1) = false) (h6 : isIntD nu 0 ((b : Int) - 1) = false) : BadR 5 nms6 [.int (v : Int), .int (b : Int), .tuple (R.map rlD), .int (i1 : Int), .int (j1 : Int), l1] [nv, nb, nr, nf, ns, nu] := by
  have v1 := hR.v1
  have v5 := hR.v5
  have b20 := hR.b20
  refine ⟨rfl, rfl, by decide, fun s hs => ?_, fun i hi row hl e1 e2 e3 => ?_⟩
  · simp only [nms6, List.mem_cons, List.not_mem_nil, or_false] at hs
    rcases hs with rfl | rfl | rfl | rfl | rfl | rfl <;> exact sh_bad
  · obtain ⟨x, y, z, f, s, u, rfl⟩ := get6 hl
    refine ⟨5, _, rfl, by omega, .inr (.inl ⟨rfl, x, y, z, f, s, u, rfl, ?_⟩)⟩
    have hi : i < 6 := hi
    match i, hi with
    | 0, _ => exact .inl (ru_bad (i := 0) (by omega) (by omega) (by omega) h1 h2 h3 (.inl ⟨rfl, Option.some.inj e2⟩))
    | 1, _ => exact .inl (ru_bad (i := 1) (by omega) (by omega) (by omega) h1 h2 h3 (.inr (.inl ⟨rfl, Option.some.inj (e1 0 (by omega)), Option.some.inj e2⟩)))
    | 2, _ => exact .inl (ru_bad (i := 2) (by omega) (by omega) (by omega) h1 h2 h3 (.inr (.inr ⟨rfl, Option.some.inj (e1 0 (by omega)), Option.some.inj (e1 1 (by omega)), Option.some.inj e2⟩)))
    | 3, _ => exact .inr ⟨R, v, b, Option.some.inj (e1 0 (by omega)), Option.some.inj (e1 1 (by omega)), Option.some.inj (e1 2 (by omega)), hR, .inl ⟨by rw [show f = nf from Option.some.inj e2]; exact h4, rfl⟩⟩
    | 4, _ => exact .inr ⟨R, v, b, Option.some.inj (e1 0 (by omega)), Option.some.inj (e1 1 (by omega)), Option.some.inj (e1 2 (by omega)), hR, .inr ⟨i1, Option.some.inj (e1 3 (by omega)), hi1, .inl ⟨by rw [show s = ns from Option.some.inj e2]; exact h5, rfl⟩⟩⟩
    | 5, _ => exact .inr ⟨R, v, b, Option.some.inj (e1 0 (by omega)), Option.some.inj (e1 1 (by omega)), Option.some.inj (e1 2 (by omega)), hR, .inr ⟨i1, Option.some.inj (e1 3 (by omega)), hi1, .inr ⟨j1, Option.some.inj (e1 4 (by omega)), hj1, by rw [show u = nu from Option.some.inj e2]; exact h6, rfl⟩⟩⟩
end Lm


/-! itertools.combinations(list, k) -/
namespace CmbK
open PySem PySem.Spec PyProof.Rows L2
end CmbK


/-! the program's own text, by places -/
namespace W
open PySem PySem.Spec PyProof.Rows L2 Lm
def topS (i : Nat) : Stmt := PySem.Challenge.pw_leastmoved_k61_refusals_of_rules.main.body.getD i (.Pass ⟨0, 0, 0, 0⟩)
abbrev s_is_integer : Stmt := topS 7
abbrev n_is_integer : List Str := ["value", "least", "greatest"]
abbrev p_is_integer : List Str := ["value", "least", "greatest"]
theorem sc_is_integer : FnScope n_is_integer p_is_integer (defScope s_is_integer) := ⟨rfl, rfl, rfl, by decide +kernel, rfl, by decide +kernel, by decide +kernel⟩
abbrev s_are_integers : Stmt := topS 8
abbrev n_are_integers : List Str := ["value", "least", "greatest", "part"]
abbrev p_are_integers : List Str := ["value", "least", "greatest"]
theorem sc_are_integers : FnScope n_are_integers p_are_integers (defScope s_are_integers) := ⟨rfl, rfl, rfl, by decide +kernel, rfl, by decide +kernel, by decide +kernel⟩
abbrev s_require : Stmt := topS 9
abbrev n_require : List Str := ["holds", "name"]
abbrev p_require : List Str := ["holds", "name"]
theorem sc_require : FnScope n_require p_require (defScope s_require) := ⟨rfl, rfl, rfl, by decide +kernel, rfl, by decide +kernel, by decide +kernel⟩
abbrev s_check_variants : Stmt := topS 10
abbrev n_check_variants : List Str := ["variants"]
abbrev p_check_variants : List Str := ["variants"]
theorem sc_check_variants : FnScope n_check_variants p_check_variants (defScope s_check_variants) := ⟨rfl, rfl, rfl, by decide +kernel, rfl, by decide +kernel, by decide +kernel⟩
abbrev s_check_sizes : Stmt := topS 11
abbrev n_check_sizes : List Str := ["variants", "buckets"]
abbrev p_check_sizes : List Str := ["variants", "buckets"]
theorem sc_check_sizes : FnScope n_check_sizes p_check_sizes (defScope s_check_sizes) := ⟨rfl, rfl, rfl, by decide +kernel, rfl, by decide +kernel, by decide +kernel⟩
abbrev s_is_allocation : Stmt := topS 13
abbrev n_is_allocation : List Str := ["value", "variants", "buckets"]
abbrev p_is_allocation : List Str := ["value", "variants", "buckets"]
theorem sc_is_allocation : FnScope n_is_allocation p_is_allocation (defScope s_is_allocation) := ⟨rfl, rfl, rfl, by decide +kernel, rfl, by decide +kernel, by decide +kernel⟩
abbrev s_is_bounded_allocation : Stmt := topS 14
abbrev n_is_bounded_allocation : List Str := ["value"]
abbrev p_is_bounded_allocation : List Str := ["value"]
theorem sc_is_bounded_allocation : FnScope n_is_bounded_allocation p_is_bounded_allocation (defScope s_is_bounded_allocation) := ⟨rfl, rfl, rfl, by decide +kernel, rfl, by decide +kernel, by decide +kernel⟩
abbrev s_check_allocation : Stmt := topS 15
abbrev n_check_allocation : List Str := ["value", "name"]
abbrev p_check_allocation : List Str := ["value", "name"]
theorem sc_check_allocation : FnScope n_check_allocation p_check_allocation (defScope s_check_allocation) := ⟨rfl, rfl, rfl, by decide +kernel, rfl, by decide +kernel, by decide +kernel⟩
abbrev s_check_alike : Stmt := topS 16
abbrev n_check_alike : List Str := ["value", "first", "name"]
abbrev p_check_alike : List Str := ["value", "first", "name"]
theorem sc_check_alike : FnScope n_check_alike p_check_alike (defScope s_check_alike) := ⟨rfl, rfl, rfl, by decide +kernel, rfl, by decide +kernel, by decide +kernel⟩
abbrev s_transfer : Stmt := topS 17
abbrev n_transfer : List Str := ["first", "second", "old", "new"]
abbrev p_transfer : List Str := ["first", "second"]
theorem sc_transfer : FnScope n_transfer p_transfer (defScope s_transfer) := ⟨rfl, rfl, rfl, by decide +kernel, rfl, by decide +kernel, by decide +kernel⟩
abbrev s_is_assignment : Stmt := topS 19
abbrev n_is_assignment : List Str := ["value", "variants", "buckets"]
abbrev p_is_assignment : List Str := ["value", "variants", "buckets"]
theorem sc_is_assignment : FnScope n_is_assignment p_is_assignment (defScope s_is_assignment) := ⟨rfl, rfl, rfl, by decide +kernel, rfl, by decide +kernel, by decide +kernel⟩
abbrev s_is_bounded_assignment : Stmt := topS 20
abbrev n_is_bounded_assignment : List Str := ["value", "variants"]
abbrev p_is_bounded_assignment : List Str := ["value", "variants"]
theorem sc_is_bounded_assignment : FnScope n_is_bounded_assignment p_is_bounded_assignment (defScope s_is_bounded_assignment) := ⟨rfl, rfl, rfl, by decide +kernel, rfl, by decide +kernel, by decide +kernel⟩
abbrev s_check_assignment : Stmt := topS 21
abbrev n_check_assignment : List Str := ["value", "name"]
abbrev p_check_assignment : List Str := ["value", "name"]
theorem sc_check_assignment : FnScope n_check_assignment p_check_assignment (defScope s_check_assignment) := ⟨rfl, rfl, rfl, by decide +kernel, rfl, by decide +kernel, by decide +kernel⟩
abbrev s_check_pair : Stmt := topS 22
abbrev n_check_pair : List Str := ["first", "second"]
abbrev p_check_pair : List Str := ["first", "second"]
theorem sc_check_pair : FnScope n_check_pair p_check_pair (defScope s_check_pair) := ⟨rfl, rfl, rfl, by decide +kernel, rfl, by decide +kernel, by decide +kernel⟩
abbrev s_check_enough : Stmt := topS 23
abbrev n_check_enough : List Str := ["variants", "assignment", "least"]
abbrev p_check_enough : List Str := ["variants", "assignment"]
theorem sc_check_enough : FnScope n_check_enough p_check_enough (defScope s_check_enough) := ⟨rfl, rfl, rfl, by decide +kernel, rfl, by decide +kernel, by decide +kernel⟩
abbrev s_allocation_of : Stmt := topS 24
abbrev n_allocation_of : List Str := ["assignment", "variants", "variant"]
abbrev p_allocation_of : List Str := ["assignment", "variants"]
theorem sc_allocation_of : FnScope n_allocation_of p_allocation_of (defScope s_allocation_of) := ⟨rfl, rfl, rfl, by decide +kernel, rfl, by decide +kernel, by decide +kernel⟩
abbrev s_is_assignment_of : Stmt := topS 25
abbrev n_is_assignment_of : List Str := ["value", "allocation", "variants"]
abbrev p_is_assignment_of : List Str := ["value", "allocation"]
theorem sc_is_assignment_of : FnScope n_is_assignment_of p_is_assignment_of (defScope s_is_assignment_of) := ⟨rfl, rfl, rfl, by decide +kernel, rfl, by decide +kernel, by decide +kernel⟩
abbrev s_churn : Stmt := topS 26
abbrev n_churn : List Str := ["first", "second"]
abbrev p_churn : List Str := ["first", "second"]
theorem sc_churn : FnScope n_churn p_churn (defScope s_churn) := ⟨rfl, rfl, rfl, by decide +kernel, rfl, by decide +kernel, by decide +kernel⟩
abbrev s_moves : Stmt := topS 27
abbrev n_moves : List Str := ["first", "second", "bucket", "old", "new"]
abbrev p_moves : List Str := ["first", "second"]
theorem sc_moves : FnScope n_moves p_moves (defScope s_moves) := ⟨rfl, rfl, rfl, by decide +kernel, rfl, by decide +kernel, by decide +kernel⟩
abbrev s_buckets_of : Stmt := topS 28
abbrev n_buckets_of : List Str := ["assignment", "variant", "bucket", "own"]
abbrev p_buckets_of : List Str := ["assignment", "variant"]
theorem sc_buckets_of : FnScope n_buckets_of p_buckets_of (defScope s_buckets_of) := ⟨rfl, rfl, rfl, by decide +kernel, rfl, by decide +kernel, by decide +kernel⟩
abbrev s_check_bucket : Stmt := topS 30
abbrev n_check_bucket : List Str := ["bucket", "buckets"]
abbrev p_check_bucket : List Str := ["bucket", "buckets"]
theorem sc_check_bucket : FnScope n_check_bucket p_check_bucket (defScope s_check_bucket) := ⟨rfl, rfl, rfl, by decide +kernel, rfl, by decide +kernel, by decide +kernel⟩
abbrev s_are_lists : Stmt := topS 32
abbrev n_are_lists : List Str := ["value", "variants", "buckets", "row"]
abbrev p_are_lists : List Str := ["value", "variants", "buckets"]
theorem sc_are_lists : FnScope n_are_lists p_are_lists (defScope s_are_lists) := ⟨rfl, rfl, rfl, by decide +kernel, rfl, by decide +kernel, by decide +kernel⟩
abbrev s_short_list : Stmt := topS 33
abbrev n_short_list : List Str := ["table", "variant", "found", "row", "assignment", "bucket"]
abbrev p_short_list : List Str := ["table", "variant"]
theorem sc_short_list : FnScope n_short_list p_short_list (defScope s_short_list) := ⟨rfl, rfl, rfl, by decide +kernel, rfl, by decide +kernel, by decide +kernel⟩
abbrev s_fits : Stmt := topS 34
abbrev n_fits : List Str := ["row", "buckets"]
abbrev p_fits : List Str := ["row", "buckets"]
theorem sc_fits : FnScope n_fits p_fits (defScope s_fits) := ⟨rfl, rfl, rfl, by decide +kernel, rfl, by decide +kernel, by decide +kernel⟩
abbrev s_check_rule : Stmt := topS 38
abbrev n_check_rule : List Str := ["variants", "buckets", "rule"]
abbrev p_check_rule : List Str := ["variants", "buckets", "rule"]
theorem sc_check_rule : FnScope n_check_rule p_check_rule (defScope s_check_rule) := ⟨rfl, rfl, rfl, by decide +kernel, rfl, by decide +kernel, by decide +kernel⟩
abbrev s_is_pair : Stmt := topS 39
abbrev n_is_pair : List Str := ["value", "variants", "buckets"]
abbrev p_is_pair : List Str := ["value", "variants", "buckets"]
theorem sc_is_pair : FnScope n_is_pair p_is_pair (defScope s_is_pair) := ⟨rfl, rfl, rfl, by decide +kernel, rfl, by decide +kernel, by decide +kernel⟩
abbrev s_is_rule : Stmt := topS 40
abbrev n_is_rule : List Str := ["value", "variants", "buckets", "pair", "allocation", "_"]
abbrev p_is_rule : List Str := ["value", "variants", "buckets"]
theorem sc_is_rule : FnScope n_is_rule p_is_rule (defScope s_is_rule) := ⟨rfl, rfl, rfl, by decide +kernel, rfl, by decide +kernel, by decide +kernel⟩
abbrev s_given_back : Stmt := topS 41
abbrev n_given_back : List Str := ["allocation", "variant", "shares"]
abbrev p_given_back : List Str := ["allocation", "variant"]
theorem sc_given_back : FnScope n_given_back p_given_back (defScope s_given_back) := ⟨rfl, rfl, rfl, by decide +kernel, rfl, by decide +kernel, by decide +kernel⟩
abbrev s_missing : Stmt := topS 42
abbrev n_missing : List Str := ["variants", "buckets", "rule", "known", "allocation", "_", "index", "variant"]
abbrev p_missing : List Str := ["variants", "buckets", "rule"]
theorem sc_missing : FnScope n_missing p_missing (defScope s_missing) := ⟨rfl, rfl, rfl, by decide +kernel, rfl, by decide +kernel, by decide +kernel⟩
abbrev s_is_left : Stmt := topS 43
abbrev n_is_left : List Str := ["one", "two", "bucket", "shares", "assignment", "other_shares", "other", "own"]
abbrev p_is_left : List Str := ["one", "two", "bucket"]
theorem sc_is_left : FnScope n_is_left p_is_left (defScope s_is_left) := ⟨rfl, rfl, rfl, by decide +kernel, rfl, by decide +kernel, by decide +kernel⟩
abbrev s_first_left : Stmt := topS 44
abbrev n_first_left : List Str := ["rule", "buckets", "first", "one", "second", "two", "bucket"]
abbrev p_first_left : List Str := ["rule", "buckets"]
theorem sc_first_left : FnScope n_first_left p_first_left (defScope s_first_left) := ⟨rfl, rfl, rfl, by decide +kernel, rfl, by decide +kernel, by decide +kernel⟩
abbrev s_needless_leave : Stmt := topS 45
abbrev n_needless_leave : List Str := ["variants", "buckets", "rule"]
abbrev p_needless_leave : List Str := ["variants", "buckets", "rule"]
theorem sc_needless_leave : FnScope n_needless_leave p_needless_leave (defScope s_needless_leave) := ⟨rfl, rfl, rfl, by decide +kernel, rfl, by decide +kernel, by decide +kernel⟩
abbrev s_leaves : Stmt := topS 46
abbrev n_leaves : List Str := ["variants", "buckets", "rule", "first", "second", "bucket"]
abbrev p_leaves : List Str := ["variants", "buckets", "rule", "first", "second", "bucket"]
theorem sc_leaves : FnScope n_leaves p_leaves (defScope s_leaves) := ⟨rfl, rfl, rfl, by decide +kernel, rfl, by decide +kernel, by decide +kernel⟩
abbrev s_lists_of_rule : Stmt := topS 47
abbrev n_lists_of_rule : List Str := ["variants", "buckets", "rule", "table", "_", "assignment", "variant"]
abbrev p_lists_of_rule : List Str := ["variants", "buckets", "rule"]
theorem sc_lists_of_rule : FnScope n_lists_of_rule p_lists_of_rule (defScope s_lists_of_rule) := ⟨rfl, rfl, rfl, by decide +kernel, rfl, by decide +kernel, by decide +kernel⟩
abbrev s_serves_rule : Stmt := topS 48
abbrev n_serves_rule : List Str := ["variants", "buckets", "rule", "lists", "_", "assignment", "owned", "variant", "row", "own"]
abbrev p_serves_rule : List Str := ["variants", "buckets", "rule", "lists"]
theorem sc_serves_rule : FnScope n_serves_rule p_serves_rule (defScope s_serves_rule) := ⟨rfl, rfl, rfl, by decide +kernel, rfl, by decide +kernel, by decide +kernel⟩
abbrev s_most_waste : Stmt := topS 49
abbrev n_most_waste : List Str := ["variants", "buckets", "rule", "found", "greatest", "first", "second", "moved", "needed"]
abbrev p_most_waste : List Str := ["variants", "buckets", "rule"]
theorem sc_most_waste : FnScope n_most_waste p_most_waste (defScope s_most_waste) := ⟨rfl, rfl, rfl, by decide +kernel, rfl, by decide +kernel, by decide +kernel⟩
abbrev s_variant_sets : Stmt := topS 51
abbrev n_variant_sets : List Str := ["variants", "found", "many", "chosen"]
abbrev p_variant_sets : List Str := ["variants"]
theorem sc_variant_sets : FnScope n_variant_sets p_variant_sets (defScope s_variant_sets) := ⟨rfl, rfl, rfl, by decide +kernel, rfl, by decide +kernel, by decide +kernel⟩
abbrev s_is_inside : Stmt := topS 52
abbrev n_is_inside : List Str := ["own", "chosen", "variant"]
abbrev p_is_inside : List Str := ["own", "chosen"]
theorem sc_is_inside : FnScope n_is_inside p_is_inside (defScope s_is_inside) := ⟨rfl, rfl, rfl, by decide +kernel, rfl, by decide +kernel, by decide +kernel⟩
abbrev s_room : Stmt := topS 53
abbrev n_room : List Str := ["shares", "chosen", "variant"]
abbrev p_room : List Str := ["shares", "chosen"]
theorem sc_room : FnScope n_room p_room (defScope s_room) := ⟨rfl, rfl, rfl, by decide +kernel, rfl, by decide +kernel, by decide +kernel⟩
abbrev s_confined : Stmt := topS 54
abbrev n_confined : List Str := ["can_have", "chosen", "bucket", "own"]
abbrev p_confined : List Str := ["can_have", "chosen"]
theorem sc_confined : FnScope n_confined p_confined (defScope s_confined) := ⟨rfl, rfl, rfl, by decide +kernel, rfl, by decide +kernel, by decide +kernel⟩
abbrev s_first_shortage : Stmt := topS 55
abbrev n_first_shortage : List Str := ["shares", "can_have", "chosen", "buckets"]
abbrev p_first_shortage : List Str := ["shares", "can_have"]
theorem sc_first_shortage : FnScope n_first_shortage p_first_shortage (defScope s_first_shortage) := ⟨rfl, rfl, rfl, by decide +kernel, rfl, by decide +kernel, by decide +kernel⟩
abbrev s_are_ascending : Stmt := topS 56
abbrev n_are_ascending : List Str := ["value", "many"]
abbrev p_are_ascending : List Str := ["value", "many"]
theorem sc_are_ascending : FnScope n_are_ascending p_are_ascending (defScope s_are_ascending) := ⟨rfl, rfl, rfl, by decide +kernel, rfl, by decide +kernel, by decide +kernel⟩
abbrev s_is_shortage : Stmt := topS 57
abbrev n_is_shortage : List Str := ["shares", "can_have", "value", "chosen", "buckets", "bucket"]
abbrev p_is_shortage : List Str := ["shares", "can_have", "value"]
theorem sc_is_shortage : FnScope n_is_shortage p_is_shortage (defScope s_is_shortage) := ⟨rfl, rfl, rfl, by decide +kernel, rfl, by decide +kernel, by decide +kernel⟩
abbrev s_spare_after : Stmt := topS 58
abbrev n_spare_after : List Str := ["sets", "spare", "own", "variant", "spent", "chosen", "have", "loses"]
abbrev p_spare_after : List Str := ["sets", "spare", "own", "variant"]
theorem sc_spare_after : FnScope n_spare_after p_spare_after (defScope s_spare_after) := ⟨rfl, rfl, rfl, by decide +kernel, rfl, by decide +kernel, by decide +kernel⟩
abbrev s_first_fit : Stmt := topS 59
abbrev n_first_fit : List Str := ["shares", "can_have", "sets", "spare", "chosen", "found", "own", "fitting", "variant"]
abbrev p_first_fit : List Str := ["shares", "can_have"]
theorem sc_first_fit : FnScope n_first_fit p_first_fit (defScope s_first_fit) := ⟨rfl, rfl, rfl, by decide +kernel, rfl, by decide +kernel, by decide +kernel⟩
abbrev s_check_continuing : Stmt := topS 61
abbrev n_check_continuing : List Str := ["variants", "buckets", "rule", "allocation"]
abbrev p_check_continuing : List Str := ["variants", "buckets", "rule", "allocation"]
theorem sc_check_continuing : FnScope n_check_continuing p_check_continuing (defScope s_check_continuing) := ⟨rfl, rfl, rfl, by decide +kernel, rfl, by decide +kernel, by decide +kernel⟩
abbrev s_is_allowed : Stmt := topS 62
abbrev n_is_allowed : List Str := ["rule", "allocation", "bucket", "variant", "shares", "assignment", "own"]
abbrev p_is_allowed : List Str := ["rule", "allocation", "bucket", "variant"]
theorem sc_is_allowed : FnScope n_is_allowed p_is_allowed (defScope s_is_allowed) := ⟨rfl, rfl, rfl, by decide +kernel, rfl, by decide +kernel, by decide +kernel⟩
abbrev s_allowed_for_all : Stmt := topS 63
abbrev n_allowed_for_all : List Str := ["variants", "buckets", "rule", "allocation", "found", "bucket", "v"]
abbrev p_allowed_for_all : List Str := ["variants", "buckets", "rule", "allocation"]
theorem sc_allowed_for_all : FnScope n_allowed_for_all p_allowed_for_all (defScope s_allowed_for_all) := ⟨rfl, rfl, rfl, by decide +kernel, rfl, by decide +kernel, by decide +kernel⟩
abbrev s_allowed_variants : Stmt := topS 64
abbrev n_allowed_variants : List Str := ["variants", "buckets", "rule", "allocation"]
abbrev p_allowed_variants : List Str := ["variants", "buckets", "rule", "allocation"]
theorem sc_allowed_variants : FnScope n_allowed_variants p_allowed_variants (defScope s_allowed_variants) := ⟨rfl, rfl, rfl, by decide +kernel, rfl, by decide +kernel, by decide +kernel⟩
abbrev s_continuation : Stmt := topS 65
abbrev n_continuation : List Str := ["variants", "buckets", "rule", "allocation"]
abbrev p_continuation : List Str := ["variants", "buckets", "rule", "allocation"]
theorem sc_continuation : FnScope n_continuation p_continuation (defScope s_continuation) := ⟨rfl, rfl, rfl, by decide +kernel, rfl, by decide +kernel, by decide +kernel⟩
abbrev s_why_none : Stmt := topS 66
abbrev n_why_none : List Str := ["variants", "buckets", "rule", "allocation", "left", "shortage"]
abbrev p_why_none : List Str := ["variants", "buckets", "rule", "allocation"]
theorem sc_why_none : FnScope n_why_none p_why_none (defScope s_why_none) := ⟨rfl, rfl, rfl, by decide +kernel, rfl, by decide +kernel, by decide +kernel⟩
abbrev s_is_needless : Stmt := topS 67
abbrev n_is_needless : List Str := ["buckets", "rule", "value", "first", "second", "bucket"]
abbrev p_is_needless : List Str := ["buckets", "rule", "value"]
theorem sc_is_needless : FnScope n_is_needless p_is_needless (defScope s_is_needless) := ⟨rfl, rfl, rfl, by decide +kernel, rfl, by decide +kernel, by decide +kernel⟩
abbrev s_accepts_none : Stmt := topS 68
abbrev n_accepts_none : List Str := ["variants", "buckets", "rule", "allocation", "evidence"]
abbrev p_accepts_none : List Str := ["variants", "buckets", "rule", "allocation", "evidence"]
theorem sc_accepts_none : FnScope n_accepts_none p_accepts_none (defScope s_accepts_none) := ⟨rfl, rfl, rfl, by decide +kernel, rfl, by decide +kernel, by decide +kernel⟩
abbrev s__law_stream : Stmt := topS 70
abbrev n__law_stream : List Str := ["script"]
abbrev p__law_stream : List Str := ["script"]
theorem sc__law_stream : FnScope n__law_stream p__law_stream (defScope s__law_stream) := ⟨rfl, rfl, rfl, by decide +kernel, rfl, by decide +kernel, by decide +kernel⟩
abbrev s__law_next : Stmt := topS 71
abbrev n__law_next : List Str := ["stream", "many", "k", "cell", "digit"]
abbrev p__law_next : List Str := ["stream", "many"]
theorem sc__law_next : FnScope n__law_next p__law_next (defScope s__law_next) := ⟨rfl, rfl, rfl, by decide +kernel, rfl, by decide +kernel, by decide +kernel⟩
abbrev s__law_ask : Stmt := topS 83
abbrev n__law_ask : List Str := ["which", "row"]
abbrev p__law_ask : List Str := ["which", "row"]
theorem sc__law_ask : FnScope n__law_ask p__law_ask (defScope s__law_ask) := ⟨rfl, rfl, rfl, by decide +kernel, rfl, by decide +kernel, by decide +kernel⟩
abbrev s__law_told : Stmt := topS 84
abbrev n__law_told : List Str := ["which", "row", "e"]
abbrev p__law_told : List Str := ["which", "row"]
theorem sc__law_told : FnScope n__law_told p__law_told (defScope s__law_told) := ⟨rfl, rfl, rfl, by decide +kernel, rfl, by decide +kernel, by decide +kernel⟩
abbrev s__law_named : Stmt := topS 85
abbrev n__law_named : List Str := ["stream", "which", "names", "good", "bad", "first", "row", "at"]
abbrev p__law_named : List Str := ["stream", "which", "names", "good", "bad"]
theorem sc__law_named : FnScope n__law_named p__law_named (defScope s__law_named) := ⟨rfl, rfl, rfl, by decide +kernel, rfl, by decide +kernel, by decide +kernel⟩
abbrev s_law : Stmt := topS 86
abbrev n_law : List Str := ["script", "stream", "variants", "buckets", "rest", "rule", "good", "bad", "names", "which", "more", "wrong", "no_allocation"]
abbrev p_law : List Str := ["script"]
theorem sc_law : FnScope n_law p_law (defScope s_law) := ⟨rfl, rfl, rfl, by decide +kernel, rfl, by decide +kernel, by decide +kernel⟩
abbrev s_ini_BadValue : Stmt := inClass (topS 3) 0
-- _law_told: stmt Try
structure Txt (mg : Str → Option Value) : Prop where
  b_ValueError : mg "ValueError" = none
  b_abs : mg "abs" = none
  b_all : mg "all" = none
  b_bool : mg "bool" = none
  b_enumerate : mg "enumerate" = none
  b_int : mg "int" = none
  b_isinstance : mg "isinstance" = none
  b_len : mg "len" = none
  b_list : mg "list" = none
  b_max : mg "max" = none
  b_min : mg "min" = none
  b_range : mg "range" = none
  b_set : mg "set" = none
  b_sorted : mg "sorted" = none
  b_sum : mg "sum" = none
  b_tuple : mg "tuple" = none
  b_zip : mg "zip" = none
  k_MOST_VARIANTS : ∃ t, mg "MOST_VARIANTS" = some (.int 5 t)
  k_MOST_BUCKETS : ∃ t, mg "MOST_BUCKETS" = some (.int 20 t)
  k_MOST_PAIRS : ∃ t, mg "MOST_PAIRS" = some (.int 20 t)
  k_CONTROL : ∃ t, mg "CONTROL" = some (.int 0 t)
  i_combinations : mg "combinations" = some (.type "itertools.combinations")
end W

namespace W
open PySem PySem.Spec PyProof.Rows L2 Lm
theorem ok_is_integer {P : Program} {w : World} {K : PySem.W.Frag} {mg : Str → Option Value} {base : Heap} {f : Addr} {fd : FuncData} (F : Fun K "is_integer" "is_integer" s_is_integer f fd) (T : Txt mg) :
    FnOk P w K mg base CX0 1 f fd p_is_integer (sp_is_integer K) := by
  refine F.ok sc_is_integer (fun vs H Q E h => spD_len h (by rintro ds k d ⟨x, lo, hi, rfl, _⟩; rfl)) (fun cdv A outer s H vs Q E hr h => ⟨_, (pss_cons (ps_if (PW.pt (pw_or (pt_not (pt_val (pe_callB (k_isi (K := K) rfl) rfl T.b_isinstance (by decide +kernel) (pa_cons (pv 0) (pa_cons (pe_ty (n := "int") rfl T.b_int (by decide +kernel)) pa_nil))))) (pw_or1 (pt_val (pe_callB (k_isi (K := K) rfl) rfl T.b_isinstance (by decide +kernel) (pa_cons (pv 0) (pa_cons (pe_ty (n := "bool") rfl T.b_bool (by decide +kernel)) pa_nil))))))) (pss_one (ps_ret pe_bl)) pss_nil)
      (pss_one (ps_ret (pe_chain op_le op_le (pv 1) (pv 0) (pv 2))))), run_pure (N := n_is_integer) (fun ds k d hp => ?_) h⟩)
  obtain ⟨x, lo, hi, rfl, rfl, rfl⟩ := hp
  refine q_if (t_or (t_not (t_B (e_isi (d_var rfl) (kit_int x)))) fun _ => t_B (e_isi (d_var rfl) (kit_bool x))) (fun h => ?_) fun h => q_next ?_
  · refine q_ret d_bl (.inr ⟨rfl, rfl⟩) (.inl ?_)
    cases x <;> first | rfl | (simp [isIntTy, isBoolTy] at h)
  · cases x with
    | int i => exact s_ret (d_chain (d_var rfl) (d_var rfl) fun _ => d_var rfl) (.inr ⟨rfl, rfl⟩) (.inl rfl)
    | _ => simp [isIntTy, isBoolTy] at h

theorem ok_are_integers {P : Program} {w : World} {K : PySem.W.Frag} {mg : Str → Option Value} {base : Heap} {f : Addr} {fd : FuncData} (F : Fun K "are_integers" "are_integers" s_are_integers f fd) (T : Txt mg) (c_is_integer : Cal P w K mg base CX0 1 "is_integer" p_is_integer (sp_is_integer K)) :
    FnOk P w K mg base CX0 2 f fd p_are_integers (sp_are_integers K) := by
  refine F.ok sc_are_integers (fun vs H Q E h => spD_len h (by rintro ds k d ⟨x, lo, hi, rfl, _⟩; rfl)) (fun cdv A outer s H vs Q E hr h => ⟨_, (pss_one (ps_ret (pe_and (pe_callB (k_isi (K := K) rfl) rfl T.b_isinstance (by decide +kernel) (pa_cons (pv 0) (pa_cons (pe_ty (n := "tuple") rfl T.b_tuple (by decide +kernel)) pa_nil))) (pe_one (pe_callB (k_all (K := K) rfl rfl) rfl T.b_all (by decide +kernel) (pa_cons (pe_lc rfl sc_are_integers.nd (k_seq (K := K) rfl (pv 0)) (blkOk_by (own := [("part", 3)]) (N := n_are_integers) (sc := defScope s_are_integers) (by decide +kernel)) (fun _ _ _ _ _ => by exact (pg_name (i := 3) sc_are_integers.nd rfl (Or.inl rfl))) (fun _ _ _ _ _ => by exact pts_nil) (fun _ _ _ _ _ => by exact (pe_cal c_is_integer (hr.mono (by decide)) rfl pass0 (pa_cons (pv 3) (pa_cons (pv 1) (pa_cons (pv 2) pa_nil)))))) pa_nil)))))), run_pure (N := n_are_integers) (fun ds k d hp => ?_) h⟩)
  obtain ⟨x, lo, hi, rfl, hx, rfl, rfl⟩ := hp
  refine s_ret ((d_andV (b := areInts x lo hi) (e_isi (d_var rfl) (kit_tuple x)) fun hx' => ?_).to ?_) (.inr ⟨rfl, rfl⟩) (.inl rfl)
  · cases x with
    | tuple es =>
      refine (d_all (d_lcB (fun d => isIntD d lo hi) (i_seqT (d_var rfl) (by intro h; cases h)) (hx es rfl) fun a _ => ⟨_, _, g_name, fun j hj => hj, _, d_call (a_cons (d_var rfl) (a_cons (d_var rfl) (a_cons (d_var rfl) a_nil))) ⟨a, lo, hi, rfl, rfl, rfl⟩⟩)).to ?_
      show PyData.bool _ = .bool (es.all fun d => isIntD d lo hi)
      rw [List.all_map]
      rfl
    | _ => simp [isTupTy] at hx'
  · cases x <;> simp [isTupTy, areInts]

theorem ok_require {P : Program} {w : World} {K : PySem.W.Frag} {mg : Str → Option Value} {base : Heap} {f : Addr} {fd : FuncData} (F : Fun K "require" "require" s_require f fd) (T : Txt mg) :
    FnOk P w K mg base CX0 1 f fd p_require (sp_require K) := by
  refine F.ok sc_require (fun vs H Q E h => spD_len h (by rintro ds k d ⟨nm, rfl, _⟩; rfl)) (fun cdv A outer s H vs Q E hr h => ⟨_, (pss_one (ps_if (pt_not (pt_val (pv 0))) (pss_one ps_never) pss_nil)), run_pure (N := n_require) (fun ds k d hp => ?_) h⟩)
  obtain ⟨nm, rfl, rfl, rfl⟩ := hp
  exact s_no ((t_not (t_B (d_var (d := .bool true) rfl))).to rfl) (s_next (.inr ⟨rfl, rfl, _, rfl⟩))

theorem ok_check_variants {P : Program} {w : World} {K : PySem.W.Frag} {mg : Str → Option Value} {base : Heap} {f : Addr} {fd : FuncData} (F : Fun K "check_variants" "check_variants" s_check_variants f fd) (T : Txt mg) (c_require : Cal P w K mg base CX0 1 "require" p_require (sp_require K)) (c_is_integer : Cal P w K mg base CX0 1 "is_integer" p_is_integer (sp_is_integer K)) :
    FnOk P w K mg base CX0 2 f fd p_check_variants (sp_check_variants K) := by
  refine F.ok sc_check_variants (fun vs H Q E h => spD_len h (by rintro ds k d ⟨v, rfl, _⟩; rfl)) (fun cdv A outer s H vs Q E hr h => ⟨_, (pss_one (ps_expr (pe_cal c_require (hr.mono (by decide)) rfl pass0 (pa_cons (pe_cal c_is_integer (hr.mono (by decide)) rfl pass0 (pa_cons (pv 0) (pa_cons pe_int (pa_cons (pe_const rfl T.k_MOST_VARIANTS) pa_nil)))) (pa_cons pe_str pa_nil))))), run_pure (N := n_check_variants) (fun ds k d hp => ?_) h⟩)
  obtain ⟨v, rfl, h1, h5, rfl, rfl⟩ := hp
  refine s_drop (d_call (a_cons (d_call (a_cons (d_var rfl) (a_cons d_int (a_cons d_int a_nil))) ⟨.int v, 1, 5, rfl, rfl, rfl⟩) (a_cons d_str a_nil)) ⟨"variants", ?_, rfl, rfl⟩) (.inr ⟨rfl, rfl, _, rfl⟩)
  simp [isIntD, h1, h5]

theorem ok_check_sizes {P : Program} {w : World} {K : PySem.W.Frag} {mg : Str → Option Value} {base : Heap} {f : Addr} {fd : FuncData} (F : Fun K "check_sizes" "check_sizes" s_check_sizes f fd) (T : Txt mg) (c_check_variants : Cal P w K mg base CX0 2 "check_variants" p_check_variants (sp_check_variants K)) (c_require : Cal P w K mg base CX0 1 "require" p_require (sp_require K)) (c_is_integer : Cal P w K mg base CX0 1 "is_integer" p_is_integer (sp_is_integer K)) :
    FnOk P w K mg base CX0 3 f fd p_check_sizes (sp_check_sizes K) := by
  refine F.ok sc_check_sizes (fun vs H Q E h => spD_len h (by rintro ds k d ⟨v, b, rfl, _⟩; rfl)) (fun cdv A outer s H vs Q E hr h => ⟨_, (pss_cons (ps_expr (pe_cal c_check_variants (hr.mono (by decide)) rfl pass0 (pa_cons (pv 0) pa_nil)))
      (pss_one (ps_expr (pe_cal c_require (hr.mono (by decide)) rfl pass0 (pa_cons (pe_cal c_is_integer (hr.mono (by decide)) rfl pass0 (pa_cons (pv 1) (pa_cons pe_int (pa_cons (pe_const rfl T.k_MOST_BUCKETS) pa_nil)))) (pa_cons pe_str pa_nil)))))), run_pure (N := n_check_sizes) (fun ds k d hp => ?_) h⟩)
  obtain ⟨v, b, rfl, v1, v5, b0, b20, rfl, rfl⟩ := hp
  refine q_drop (d_call (k := .v) (d := .none) (a_cons (d_var rfl) a_nil) ⟨v, rfl, v1, v5, rfl, rfl⟩) ?_
  refine s_drop (d_call (a_cons (d_call (k := .v) (d := .bool true) (a_cons (d_var rfl) (a_cons d_int (a_cons d_int a_nil))) ⟨.int b, 0, 20, rfl, rfl, ?_⟩) (a_cons d_str a_nil)) ⟨_, rfl, rfl, rfl⟩) (.inr ⟨rfl, rfl, _, rfl⟩)
  simp [isIntD, b0, b20]

theorem ok_is_allocation {P : Program} {w : World} {K : PySem.W.Frag} {mg : Str → Option Value} {base : Heap} {f : Addr} {fd : FuncData} (F : Fun K "is_allocation" "is_allocation" s_is_allocation f fd) (T : Txt mg) (c_are_integers : Cal P w K mg base CX0 2 "are_integers" p_are_integers (sp_are_integers K)) :
    FnOk P w K mg base CX0 3 f fd p_is_allocation (sp_is_allocation K) := by
  refine F.ok sc_is_allocation (fun vs H Q E h => spD_len h (by rintro ds k d ⟨x, n, b, rfl, _⟩; rfl)) (fun cdv A outer s H vs Q E hr h => ⟨_, (pss_one (ps_ret (pe_and (pe_cal c_are_integers (hr.mono (by decide)) rfl pass0 (pa_cons (pv 0) (pa_cons pe_int (pa_cons (pv 2) pa_nil)))) (pe_and (pe_cmpR (k_eq (K := K) rfl (rUnits hr)) (pe_callB (k_len (K := K) rfl) rfl T.b_len (by decide +kernel) (pa_cons (pv 0) pa_nil)) (pv 1) (nomark _)) (pe_one (pe_cmpR (k_eq (K := K) rfl (rUnits hr)) (pe_callB (k_sum (K := K) rfl rfl) rfl T.b_sum (by decide +kernel) (pa_cons (pv 0) pa_nil)) (pv 2) (nomark _))))))), run_pure (N := n_is_allocation) (fun ds k d hp => ?_) h⟩)
  obtain ⟨x, n, b, rfl, hx, rfl, rfl⟩ := hp
  refine s_ret (d_andV (d_call (a_cons (d_var rfl) (a_cons d_int (a_cons (d_var rfl) a_nil))) ⟨x, 0, b, rfl, hx, rfl, rfl⟩) fun h => ?_) (.inr ⟨rfl, rfl⟩) (.inl rfl)
  obtain ⟨ns, rfl, _⟩ := areInts_ints h
  refine d_andV ((e_eqI (d_lenT (d_var rfl)) (d_var rfl)).to (by rw [lenT_ints, List.length_map])) fun _ => ?_
  exact (e_eqI (e_sumT (d_var rfl)) (d_var rfl)).to (by rw [sumT_ints])

theorem ok_is_bounded_allocation {P : Program} {w : World} {K : PySem.W.Frag} {mg : Str → Option Value} {base : Heap} {f : Addr} {fd : FuncData} (F : Fun K "is_bounded_allocation" "is_bounded_allocation" s_is_bounded_allocation f fd) (T : Txt mg) (c_are_integers : Cal P w K mg base CX0 2 "are_integers" p_are_integers (sp_are_integers K)) :
    FnOk P w K mg base CX0 3 f fd p_is_bounded_allocation (sp_is_bounded_allocation K) := by
  refine F.ok sc_is_bounded_allocation (fun vs H Q E h => spD_len h (by rintro ds k d ⟨ns, v, b, rfl, _⟩; rfl)) (fun cdv A outer s H vs Q E hr h => ⟨_, (pss_cons (ps_if (pt_not (pt_val (pe_cal c_are_integers (hr.mono (by decide)) rfl pass0 (pa_cons (pv 0) (pa_cons pe_int (pa_cons (pe_const rfl T.k_MOST_BUCKETS) pa_nil)))))) (pss_one (ps_ret pe_bl)) pss_nil)
      (pss_one (ps_ret (pe_and (pe_chain op_le op_le pe_int (pe_callB (k_len (K := K) rfl) rfl T.b_len (by decide +kernel) (pa_cons (pv 0) pa_nil)) (pe_const rfl T.k_MOST_VARIANTS)) (pe_one (pe_cmpR op_le (pe_callB (k_sum (K := K) rfl rfl) rfl T.b_sum (by decide +kernel) (pa_cons (pv 0) pa_nil)) (pe_const rfl T.k_MOST_BUCKETS) (nomark _))))))), run_pure (N := n_is_bounded_allocation) (fun ds k d hp => ?_) h⟩)
  obtain ⟨ns, v, b, rfl, ha, h1, h5, hb, rfl, rfl⟩ := hp
  have hl := ha.len
  refine q_no ((t_not (t_B (d_call (a_cons (d_var rfl) (a_cons d_int (a_cons d_int a_nil))) ⟨.tuple (ns.map .int), 0, 20, rfl, small_ints (by omega), rfl, rfl⟩))).to ?_) ?_
  · rw [areInts_of fun n hn => ⟨ha.nn n hn, by have := ha.le n hn; omega⟩]; rfl
  refine s_ret ((d_andV (d_chain d_int (d_lenT (d_var rfl)) fun _ => d_int) fun _ => d_le (e_sumT (d_var rfl)) d_int).to ?_) (.inr ⟨rfl, rfl⟩) (.inl rfl)
  rw [List.length_map, ha.sum]
  simp
  omega

theorem ok_check_allocation {P : Program} {w : World} {K : PySem.W.Frag} {mg : Str → Option Value} {base : Heap} {f : Addr} {fd : FuncData} (F : Fun K "check_allocation" "check_allocation" s_check_allocation f fd) (T : Txt mg) (c_require : Cal P w K mg base CX0 1 "require" p_require (sp_require K)) (c_is_bounded_allocation : Cal P w K mg base CX0 3 "is_bounded_allocation" p_is_bounded_allocation (sp_is_bounded_allocation K)) :
    FnOk P w K mg base CX0 4 f fd p_check_allocation (sp_check_allocation K) := by
  refine F.ok sc_check_allocation (fun vs H Q E h => spD_len h (by rintro ds k d ⟨ns, v, b, nm, rfl, _⟩; rfl)) (fun cdv A outer s H vs Q E hr h => ⟨_, (pss_one (ps_expr (pe_cal c_require (hr.mono (by decide)) rfl pass0 (pa_cons (pe_cal c_is_bounded_allocation (hr.mono (by decide)) rfl pass0 (pa_cons (pv 0) pa_nil)) (pa_cons (pv 1) pa_nil))))), run_pure (N := n_check_allocation) (fun ds k d hp => ?_) h⟩)
  obtain ⟨ns, v, b, nm, rfl, ha, h1, h5, hb, rfl, rfl⟩ := hp
  exact s_drop (d_call (a_cons (d_call (a_cons (d_var rfl) a_nil) ⟨ns, v, b, rfl, ha, h1, h5, hb, rfl, rfl⟩) (a_cons (d_var rfl) a_nil)) ⟨nm, rfl, rfl, rfl⟩) (.inr ⟨rfl, rfl, _, rfl⟩)

theorem ok_check_alike {P : Program} {w : World} {K : PySem.W.Frag} {mg : Str → Option Value} {base : Heap} {f : Addr} {fd : FuncData} (F : Fun K "check_alike" "check_alike" s_check_alike f fd) (T : Txt mg) (c_require : Cal P w K mg base CX0 1 "require" p_require (sp_require K)) (c_is_allocation : Cal P w K mg base CX0 3 "is_allocation" p_is_allocation (sp_is_allocation K)) :
    FnOk P w K mg base CX0 4 f fd p_check_alike (sp_check_alike K) := by
  refine F.ok sc_check_alike (fun vs H Q E h => spD_len h (by rintro ds k d ⟨ms, ns, v, b, nm, rfl, _⟩; rfl)) (fun cdv A outer s H vs Q E hr h => ⟨_, (pss_one (ps_expr (pe_cal c_require (hr.mono (by decide)) rfl pass0 (pa_cons (pe_cal c_is_allocation (hr.mono (by decide)) rfl pass0 (pa_cons (pv 0) (pa_cons (pe_callB (k_len (K := K) rfl) rfl T.b_len (by decide +kernel) (pa_cons (pv 1) pa_nil)) (pa_cons (pe_callB (k_sum (K := K) rfl rfl) rfl T.b_sum (by decide +kernel) (pa_cons (pv 1) pa_nil)) pa_nil)))) (pa_cons (pv 2) pa_nil))))), run_pure (N := n_check_alike) (fun ds k d hp => ?_) h⟩)
  obtain ⟨ms, ns, v, b, nm, rfl, hm, hn, h5, rfl, rfl⟩ := hp
  have hl := hm.len
  refine s_drop (d_call (a_cons (d_call (a_cons (d_var rfl) (a_cons (d_lenT (d_var rfl)) (a_cons (e_sumT (d_var rfl)) a_nil))) ⟨.tuple (ms.map .int), _, _, rfl, small_ints (by omega), rfl, rfl⟩) (a_cons (d_var rfl) a_nil)) ⟨nm, ?_, rfl, rfl⟩) (.inr ⟨rfl, rfl, _, rfl⟩)
  rw [List.length_map, hn.len, hn.sum, hm.isAlloc]

theorem ok_transfer {P : Program} {w : World} {K : PySem.W.Frag} {mg : Str → Option Value} {base : Heap} {f : Addr} {fd : FuncData} (F : Fun K "transfer" "transfer" s_transfer f fd) (T : Txt mg) (c_check_allocation : Cal P w K mg base CX0 4 "check_allocation" p_check_allocation (sp_check_allocation K)) (c_check_alike : Cal P w K mg base CX0 4 "check_alike" p_check_alike (sp_check_alike K)) :
    FnOk P w K mg base CX0 5 f fd p_transfer (sp_transfer K) := by
  refine F.ok sc_transfer (fun vs H Q E h => spD_len h (by rintro ds k d ⟨ns, ms, v, b, rfl, _⟩; rfl)) (fun cdv A outer s H vs Q E hr h => ⟨_, (pss_cons (ps_expr (pe_cal c_check_allocation (hr.mono (by decide)) rfl pass0 (pa_cons (pv 0) (pa_cons pe_str pa_nil))))
      (pss_cons (ps_expr (pe_cal c_check_alike (hr.mono (by decide)) rfl pass0 (pa_cons (pv 1) (pa_cons (pv 0) (pa_cons pe_str pa_nil)))))
      (pss_one (ps_ret (pe_callB (k_sum (K := K) rfl rfl) rfl T.b_sum (by decide +kernel) (pa_cons (pe_lc rfl sc_transfer.nd (k_zip (K := K) rfl rfl T.b_zip (pa_cons (pv 0) (pa_cons (pv 1) pa_nil))) (blkOk_by (own := [("old", 2), ("new", 3)]) (N := n_transfer) (sc := defScope s_transfer) (by decide +kernel)) (fun _ _ _ _ _ => by exact (k_tup (K := K) (n := 2) rfl rfl (pgs_cons (pg_name (i := 2) sc_transfer.nd rfl (Or.inl rfl)) (pgs_cons (pg_name (i := 3) sc_transfer.nd rfl (Or.inl rfl)) pgs_nil)))) (fun _ _ _ _ _ => by exact pts_nil) (fun _ _ _ _ _ => by exact (pe_callB (call_max2 rfl) rfl T.b_max (by decide +kernel) (pa_cons (pe_op op_sub (pv 2) (pv 3)) (pa_cons pe_int pa_nil))))) pa_nil)))))), run_pure (N := n_transfer) (fun ds k d hp => ?_) h⟩)
  obtain ⟨ns, ms, v, b, rfl, hn, hm, h1, h5, hb, rfl, rfl⟩ := hp
  have hl := hn.len
  refine q_drop (d_call (a_cons (d_var rfl) (a_cons d_str a_nil)) ⟨ns, v, b, "first", rfl, hn, h1, h5, hb, rfl, rfl⟩) ?_
  refine q_drop (d_call (a_cons (d_var rfl) (a_cons (d_var rfl) (a_cons d_str a_nil))) ⟨ms, ns, v, b, "second", rfl, hm, hn, by omega, rfl, rfl⟩) ?_
  exact s_ret (e_sumL (d_lcI (l := ns.zip ms) (en := zipI) (fun p => if 0 > p.1 - p.2 then 0 else p.1 - p.2) (i_zipTI (a_consV (d_var rfl) (a_consV (d_var rfl) a_nil))) (by simp; omega) fun p _ => ⟨_, _, g_tup rfl (g_cons g_name (g_cons g_name g_nil)), fun j hj => hj, .v, e_max2 (d_sub (d_var rfl) (d_var rfl)) d_int⟩)) (.inr ⟨rfl, rfl⟩) (.inl rfl)

theorem ok_is_assignment {P : Program} {w : World} {K : PySem.W.Frag} {mg : Str → Option Value} {base : Heap} {f : Addr} {fd : FuncData} (F : Fun K "is_assignment" "is_assignment" s_is_assignment f fd) (T : Txt mg) (c_are_integers : Cal P w K mg base CX0 2 "are_integers" p_are_integers (sp_are_integers K)) :
    FnOk P w K mg base CX0 3 f fd p_is_assignment (sp_is_assignment K) := by
  refine F.ok sc_is_assignment (fun vs H Q E h => spD_len h (by rintro ds k d ⟨x, v, b, rfl, _⟩; rfl)) (fun cdv A outer s H vs Q E hr h => ⟨_, (pss_one (ps_ret (pe_and (pe_cal c_are_integers (hr.mono (by decide)) rfl pass0 (pa_cons (pv 0) (pa_cons pe_int (pa_cons (pe_op op_sub (pv 1) pe_int) pa_nil)))) (pe_one (pe_cmpR (k_eq (K := K) rfl (rUnits hr)) (pe_callB (k_len (K := K) rfl) rfl T.b_len (by decide +kernel) (pa_cons (pv 0) pa_nil)) (pv 2) (nomark _)))))), run_pure (N := n_is_assignment) (fun ds k d hp => ?_) h⟩)
  obtain ⟨x, v, b, rfl, hx, rfl, rfl⟩ := hp
  refine s_ret (d_andV (d_call (a_cons (d_var rfl) (a_cons d_int (a_cons (d_sub (d_var rfl) d_int) a_nil))) ⟨x, 0, v - 1, rfl, hx, rfl, rfl⟩) fun h => ?_) (.inr ⟨rfl, rfl⟩) (.inl rfl)
  obtain ⟨ns, rfl, _⟩ := areInts_ints h
  exact (e_eqI (d_lenT (d_var rfl)) (d_var rfl)).to (by rw [lenT_ints, List.length_map])

theorem ok_is_bounded_assignment {P : Program} {w : World} {K : PySem.W.Frag} {mg : Str → Option Value} {base : Heap} {f : Addr} {fd : FuncData} (F : Fun K "is_bounded_assignment" "is_bounded_assignment" s_is_bounded_assignment f fd) (T : Txt mg) (c_are_integers : Cal P w K mg base CX0 2 "are_integers" p_are_integers (sp_are_integers K)) :
    FnOk P w K mg base CX0 3 f fd p_is_bounded_assignment (sp_is_bounded_assignment K) := by
  refine F.ok sc_is_bounded_assignment (fun vs H Q E h => spD_len h (by rintro ds k d ⟨x, v, rfl, _⟩; rfl)) (fun cdv A outer s H vs Q E hr h => ⟨_, (pss_one (ps_ret (pe_and (pe_cal c_are_integers (hr.mono (by decide)) rfl pass0 (pa_cons (pv 0) (pa_cons pe_int (pa_cons (pe_op op_sub (pv 1) pe_int) pa_nil)))) (pe_one (pe_cmpR op_le (pe_callB (k_len (K := K) rfl) rfl T.b_len (by decide +kernel) (pa_cons (pv 0) pa_nil)) (pe_const rfl T.k_MOST_BUCKETS) (nomark _)))))), run_pure (N := n_is_bounded_assignment) (fun ds k d hp => ?_) h⟩)
  obtain ⟨x, v, rfl, hx, rfl, rfl⟩ := hp
  refine s_ret (d_andV (d_call (a_cons (d_var rfl) (a_cons d_int (a_cons (d_sub (d_var rfl) d_int) a_nil))) ⟨x, 0, v - 1, rfl, hx, rfl, rfl⟩) fun h => ?_) (.inr ⟨rfl, rfl⟩) (.inl rfl)
  obtain ⟨ns, rfl, _⟩ := areInts_ints h
  exact (d_le (d_lenT (d_var rfl)) d_int).to (by rw [lenT_ints, List.length_map])

theorem ok_check_assignment {P : Program} {w : World} {K : PySem.W.Frag} {mg : Str → Option Value} {base : Heap} {f : Addr} {fd : FuncData} (F : Fun K "check_assignment" "check_assignment" s_check_assignment f fd) (T : Txt mg) (c_require : Cal P w K mg base CX0 1 "require" p_require (sp_require K)) (c_is_bounded_assignment : Cal P w K mg base CX0 3 "is_bounded_assignment" p_is_bounded_assignment (sp_is_bounded_assignment K)) :
    FnOk P w K mg base CX0 4 f fd p_check_assignment (sp_check_assignment K) := by
  refine F.ok sc_check_assignment (fun vs H Q E h => spD_len h (by rintro ds k d ⟨x, nm, rfl, _⟩; rfl)) (fun cdv A outer s H vs Q E hr h => ⟨_, (pss_one (ps_expr (pe_cal c_require (hr.mono (by decide)) rfl pass0 (pa_cons (pe_cal c_is_bounded_assignment (hr.mono (by decide)) rfl pass0 (pa_cons (pv 0) (pa_cons (pe_const rfl T.k_MOST_VARIANTS) pa_nil))) (pa_cons (pv 1) pa_nil))))), run_pure (N := n_check_assignment) (fun ds k d hp => ?_) h⟩)
  obtain ⟨x, nm, rfl, hx, hb, rfl, rfl⟩ := hp
  refine s_drop (d_call (a_cons (d_call (a_cons (d_var rfl) (a_cons d_int a_nil)) ⟨x, 5, rfl, hx, rfl, rfl⟩) (a_cons (d_var rfl) a_nil)) ⟨nm, by rw [hb], rfl, rfl⟩) (.inr ⟨rfl, rfl, _, rfl⟩)

theorem ok_check_pair {P : Program} {w : World} {K : PySem.W.Frag} {mg : Str → Option Value} {base : Heap} {f : Addr} {fd : FuncData} (F : Fun K "check_pair" "check_pair" s_check_pair f fd) (T : Txt mg) (c_check_assignment : Cal P w K mg base CX0 4 "check_assignment" p_check_assignment (sp_check_assignment K)) (c_require : Cal P w K mg base CX0 1 "require" p_require (sp_require K)) (c_is_assignment : Cal P w K mg base CX0 3 "is_assignment" p_is_assignment (sp_is_assignment K)) :
    FnOk P w K mg base CX0 5 f fd p_check_pair (sp_check_pair K) := by
  refine F.ok sc_check_pair (fun vs H Q E h => spD_len h (by rintro ds k d ⟨ns, ms, rfl, _⟩; rfl)) (fun cdv A outer s H vs Q E hr h => ⟨_, (pss_cons (ps_expr (pe_cal c_check_assignment (hr.mono (by decide)) rfl pass0 (pa_cons (pv 0) (pa_cons pe_str pa_nil))))
      (pss_one (ps_expr (pe_cal c_require (hr.mono (by decide)) rfl pass0 (pa_cons (pe_cal c_is_assignment (hr.mono (by decide)) rfl pass0 (pa_cons (pv 1) (pa_cons (pe_const rfl T.k_MOST_VARIANTS) (pa_cons (pe_callB (k_len (K := K) rfl) rfl T.b_len (by decide +kernel) (pa_cons (pv 0) pa_nil)) pa_nil)))) (pa_cons pe_str pa_nil)))))), run_pure (N := n_check_pair) (fun ds k d hp => ?_) h⟩)
  obtain ⟨ns, ms, rfl, hn, hm, hl, rfl, rfl⟩ := hp
  refine q_drop (d_call (a_cons (d_var rfl) (a_cons d_str a_nil)) ⟨_, _, rfl, hn.small, hn.bAsg (Int.le_refl _), rfl, rfl⟩) ?_
  refine s_drop (d_call (a_cons (d_call (a_cons (d_var rfl) (a_cons d_int (a_cons (d_lenT (d_var rfl)) a_nil))) ⟨.tuple (ms.map .int), 5, _, rfl, hm.small, rfl, rfl⟩) (a_cons d_str a_nil)) ⟨"second", ?_, rfl, rfl⟩) (.inr ⟨rfl, rfl, _, rfl⟩)
  rw [hm.isAsg (by rw [List.length_map, hl])]

theorem ok_check_enough {P : Program} {w : World} {K : PySem.W.Frag} {mg : Str → Option Value} {base : Heap} {f : Addr} {fd : FuncData} (F : Fun K "check_enough" "check_enough" s_check_enough f fd) (T : Txt mg) (c_require : Cal P w K mg base CX0 1 "require" p_require (sp_require K)) (c_is_integer : Cal P w K mg base CX0 1 "is_integer" p_is_integer (sp_is_integer K)) :
    FnOk P w K mg base CX0 2 f fd p_check_enough (sp_check_enough K) := by
  refine F.ok sc_check_enough (fun vs H Q E h => spD_len h (by rintro ds k d ⟨v, ns, rfl, _⟩; rfl)) (fun cdv A outer s H vs Q E hr h => ⟨_, (pss_cons (ps_set (i := 2) sc_check_enough.nd rfl (Or.inl rfl) (pe_op (k_add (K := K) rfl) (pe_callBK (k_maxD (K := K) rfl rfl) rfl T.b_max (by decide +kernel) (pa_cons (pv 1) pa_nil) (pk_cons pe_int pk_nil)) pe_int))
      (pss_one (ps_expr (pe_cal c_require (hr.mono (by decide)) rfl pass0 (pa_cons (pe_cal c_is_integer (hr.mono (by decide)) rfl pass0 (pa_cons (pv 0) (pa_cons (pv 2) (pa_cons (pe_const rfl T.k_MOST_VARIANTS) pa_nil)))) (pa_cons pe_str pa_nil)))))), run_pure (N := n_check_enough) (fun ds k d hp => ?_) h⟩)
  obtain ⟨v, ns, rfl, h1, h2, rfl, rfl⟩ := hp
  refine q_asg (e_add (e_maxD (d_var rfl) d_int) d_int) ?_
  refine s_drop (d_call (a_cons (d_call (a_cons (d_var rfl) (a_cons (d_var rfl) (a_cons d_int a_nil))) ⟨.int v, mxD 0 ns + 1, 5, rfl, rfl, rfl⟩) (a_cons d_str a_nil)) ⟨"variants", ?_, rfl, rfl⟩) (.inr ⟨rfl, rfl, _, rfl⟩)
  simp [isIntD, h1, h2]

theorem ok_allocation_of {P : Program} {w : World} {K : PySem.W.Frag} {mg : Str → Option Value} {base : Heap} {f : Addr} {fd : FuncData} (F : Fun K "allocation_of" "allocation_of" s_allocation_of f fd) (T : Txt mg) (c_check_assignment : Cal P w K mg base CX0 4 "check_assignment" p_check_assignment (sp_check_assignment K)) (c_check_enough : Cal P w K mg base CX0 2 "check_enough" p_check_enough (sp_check_enough K)) :
    FnOk P w K mg base CX0 5 f fd p_allocation_of (sp_allocation_of K) := by
  refine F.ok sc_allocation_of (fun vs H Q E h => spD_len h (by rintro ds k d ⟨ns, v, rfl, _⟩; rfl)) (fun cdv A outer s H vs Q E hr h => ⟨_, (pss_cons (ps_expr (pe_cal c_check_assignment (hr.mono (by decide)) rfl pass0 (pa_cons (pv 0) (pa_cons pe_str pa_nil))))
      (pss_cons (ps_expr (pe_cal c_check_enough (hr.mono (by decide)) rfl pass0 (pa_cons (pv 1) (pa_cons (pv 0) pa_nil))))
      (pss_one (ps_ret (pe_callTy (k_tuple (K := K) rfl) rfl T.b_tuple (by decide +kernel) (pa_cons (pe_lc rfl sc_allocation_of.nd (pi_range1 rfl T.b_range (pa_cons (pv 1) pa_nil)) (blkOk_by (own := [("variant", 2)]) (N := n_allocation_of) (sc := defScope s_allocation_of) (by decide +kernel)) (fun _ _ _ _ _ => by exact (pg_name (i := 2) sc_allocation_of.nd rfl (Or.inl rfl))) (fun _ _ _ _ _ => by exact pts_nil) (fun _ _ _ _ _ => by exact (k_tm (K := K) rfl PySem.F.slot_tuple_count PySem.F.type_tuple_count (k_count (K := K) rfl) (pv 0) (pa_cons (pv 2) pa_nil)))) pa_nil)))))), run_pure (N := n_allocation_of) (fun ds k d hp => ?_) h⟩)
  obtain ⟨ns, v, rfl, ha, h1, h5, rfl, rfl⟩ := hp
  refine q_drop (d_call (a_cons (d_var rfl) (a_cons d_str a_nil)) ⟨_, _, rfl, ha.small, ha.bAsg h5, rfl, rfl⟩) ?_
  refine q_drop (d_call (a_cons (d_var rfl) (a_cons (d_var rfl) a_nil)) ⟨v, ns, rfl, ?_, h5, rfl, rfl⟩) ?_
  · have := mxD_le (ns := ns) (b := v - 1) (by omega) fun n hn => by have := (ha.rng n hn).2; omega
    omega
  refine s_ret (d_tuple ((d_lcI (fun i => (ns.count i : Int)) (i_rng1 (a_cons (d_var rfl) a_nil) (by omega) (by omega)) (by simp [upI]; omega) fun i _ => ⟨_, _, g_name, fun j hj => hj, _, d_count (d_var rfl) (d_var rfl)⟩)) (flatAll_ints _)) (.inr ⟨rfl, ?_⟩) (.inl rfl)
  exact flatT _

theorem ok_is_assignment_of {P : Program} {w : World} {K : PySem.W.Frag} {mg : Str → Option Value} {base : Heap} {f : Addr} {fd : FuncData} (F : Fun K "is_assignment_of" "is_assignment_of" s_is_assignment_of f fd) (T : Txt mg) (c_is_assignment : Cal P w K mg base CX0 3 "is_assignment" p_is_assignment (sp_is_assignment K)) (c_allocation_of : Cal P w K mg base CX0 5 "allocation_of" p_allocation_of (sp_allocation_of K)) :
    FnOk P w K mg base CX0 6 f fd p_is_assignment_of (sp_is_assignment_ofX K) := by
  refine F.ok sc_is_assignment_of (fun vs H Q E h => spD_len h (by rintro ds k d ⟨x, as, v, b, rfl, _⟩; rfl)) (fun cdv A outer s H vs Q E hr h => ⟨_, (pss_cons (ps_set (i := 2) sc_is_assignment_of.nd rfl (Or.inl rfl) (pe_callB (k_len (K := K) rfl) rfl T.b_len (by decide +kernel) (pa_cons (pv 1) pa_nil)))
      (pss_one (ps_ret (pe_and (pe_cal c_is_assignment (hr.mono (by decide)) rfl pass0 (pa_cons (pv 0) (pa_cons (pv 2) (pa_cons (pe_callB (k_sum (K := K) rfl rfl) rfl T.b_sum (by decide +kernel) (pa_cons (pv 1) pa_nil)) pa_nil)))) (pe_one (pe_cmpR (k_eq (K := K) rfl (rUnits hr)) (pe_cal c_allocation_of (hr.mono (by decide)) rfl pass0 (pa_cons (pv 0) (pa_cons (pv 2) pa_nil))) (pv 1) (nomark _))))))), run_pure (N := n_is_assignment_of) (fun ds k d hp => ?_) h⟩)
  obtain ⟨x, as, v, b, rfl, ha, v1, v5, b20, rfl, hx⟩ := hp
  have al : as.length = v := by have := ha.len; omega
  refine q_asg (d := .int (v : Int)) ((d_lenT (d_var rfl)).to (by rw [List.length_map, al])) ?_
  rcases hx with ⟨r, rfl, hr, hl, rfl⟩ | ⟨⟨sx, no⟩, rfl⟩
  · refine s_ret ((d_andV (a := true) ((d_call (k := .v) (a_cons (d_var rfl) (a_cons (d_var rfl) (a_cons (e_sumT (d_var rfl)) a_nil))) ⟨tupD r, v, as.sum, rfl, hr.small, rfl, rfl⟩).to ?_) fun _ => e_eqTT (d_call (k := .v) (a_cons (d_var rfl) (a_cons (d_var rfl) a_nil)) ⟨r, v, rfl, hr, by omega, by omega, rfl, rfl⟩) (d_var rfl)).to (by simp)) (.inr ⟨rfl, rfl⟩) (.inl rfl)
    rw [hr.isAsg (by rw [ha.sum, hl])]
  · exact s_ret (Ev.to (d_andV (a := false) (b := false) ((d_call (k := .v) (a_cons (d_var rfl) (a_cons (d_var rfl) (a_cons (e_sumT (d_var rfl)) a_nil))) ⟨x, v, as.sum, rfl, sx, rfl, rfl⟩).to (by rw [ha.sum, no])) fun e => nomatch e) rfl) (.inr ⟨rfl, rfl⟩) (.inl rfl)

theorem ok_churn {P : Program} {w : World} {K : PySem.W.Frag} {mg : Str → Option Value} {base : Heap} {f : Addr} {fd : FuncData} (F : Fun K "churn" "churn" s_churn f fd) (T : Txt mg) (c_moves : Cal P w K mg base CX0 6 "moves" p_moves (sp_moves K)) :
    FnOk P w K mg base CX0 7 f fd p_churn (sp_churn K) := by
  refine F.ok sc_churn (fun vs H Q E h => spD_len h (by rintro ds k d ⟨ns, ms, rfl, _⟩; rfl)) (fun cdv A outer s H vs Q E hr h => ⟨_, (pss_one (ps_ret (pe_callB (k_len (K := K) rfl) rfl T.b_len (by decide +kernel) (pa_cons (pe_cal c_moves (hr.mono (by decide)) rfl pass0 (pa_cons (pv 0) (pa_cons (pv 1) pa_nil))) pa_nil)))), run_pure (N := n_churn) (fun ds k d hp => ?_) h⟩)
  obtain ⟨ns, ms, rfl, hn, hm, hl, rfl, rfl⟩ := hp
  exact s_ret ((d_lenL (d_call (k := .o) (d := .list (movesD ns ms)) (a_cons (d_var rfl) (a_cons (d_var rfl) a_nil)) ⟨ns, ms, rfl, hn, hm, hl, rfl, rfl⟩)).to (by rw [movesD_len hl])) (.inr ⟨rfl, rfl⟩) (.inl rfl)

theorem ok_moves {P : Program} {w : World} {K : PySem.W.Frag} {mg : Str → Option Value} {base : Heap} {f : Addr} {fd : FuncData} (F : Fun K "moves" "moves" s_moves f fd) (T : Txt mg) (c_check_pair : Cal P w K mg base CX0 5 "check_pair" p_check_pair (sp_check_pair K)) :
    FnOk P w K mg base CX0 6 f fd p_moves (sp_moves K) := by
  refine F.ok sc_moves (fun vs H Q E h => spD_len h (by rintro ds k d ⟨ns, ms, rfl, _⟩; rfl)) (fun cdv A outer s H vs Q E hr h => ⟨_, (pss_cons (ps_expr (pe_cal c_check_pair (hr.mono (by decide)) rfl pass0 (pa_cons (pv 0) (pa_cons (pv 1) pa_nil))))
      (pss_one (ps_ret (pe_lc rfl sc_moves.nd (k_enumZ (K := K) rfl rfl T.b_enumerate rfl T.b_zip (pa_cons (pv 0) (pa_cons (pv 1) pa_nil))) (blkOk_by (own := [("bucket", 2), ("old", 3), ("new", 4)]) (N := n_moves) (sc := defScope s_moves) (by decide +kernel)) (fun _ _ _ _ _ => by exact (k_tup (K := K) (n := 2) rfl rfl (pgs_cons (pg_name (i := 2) sc_moves.nd rfl (Or.inl rfl)) (pgs_cons (k_tup (K := K) (n := 2) rfl rfl (pgs_cons (pg_name (i := 3) sc_moves.nd rfl (Or.inl rfl)) (pgs_cons (pg_name (i := 4) sc_moves.nd rfl (Or.inl rfl)) pgs_nil))) pgs_nil)))) (fun _ _ _ _ _ => by exact (pts_one (pt_cmpR (k_ne (K := K) rfl (rUnits hr)) (pv 3) (pv 4) (nomark _)))) (fun _ _ _ _ _ => by exact (pe_tupN (pa_cons (pv 2) (pa_cons (pv 3) (pa_cons (pv 4) pa_nil))))))))), run_pure (N := n_moves) (fun ds k d hp => ?_) h⟩)
  obtain ⟨ns, ms, rfl, hn, hm, hl, rfl, rfl⟩ := hp
  refine q_drop (d_call (a_cons (d_var rfl) (a_cons (d_var rfl) a_nil)) ⟨ns, ms, rfl, hn, hm, hl, rfl, rfl⟩) ?_
  exact s_ret (d_lc (l := (ns.zip ms).zipIdx) (en := ezI) (fun p => !decide (p.1.1 = p.1.2)) mvT (i_enumZ hl (a_consV (d_var rfl) (a_consV (d_var rfl) a_nil))) (by simp; have := hn.len; omega) fun p _ => ⟨_, _, g_tup rfl (g_cons g_name (g_cons (g_tup rfl (g_cons g_name (g_cons g_name g_nil))) g_nil)), fun j hj => hj, t_test (e_neI (d_var rfl) (d_var rfl)), fun _ => (d_tup (a_consV (d_var rfl) (a_consV (d_var rfl) (a_consV (d_var rfl) a_nil))) (by simp)).fo rfl⟩) (.inl rfl) (.inl rfl)

theorem ok_buckets_of {P : Program} {w : World} {K : PySem.W.Frag} {mg : Str → Option Value} {base : Heap} {f : Addr} {fd : FuncData} (F : Fun K "buckets_of" "buckets_of" s_buckets_of f fd) (T : Txt mg) (c_check_assignment : Cal P w K mg base CX0 4 "check_assignment" p_check_assignment (sp_check_assignment K)) (c_require : Cal P w K mg base CX0 1 "require" p_require (sp_require K)) (c_is_integer : Cal P w K mg base CX0 1 "is_integer" p_is_integer (sp_is_integer K)) :
    FnOk P w K mg base CX0 5 f fd p_buckets_of (sp_buckets_of K) := by
  refine F.ok sc_buckets_of (fun vs H Q E h => spD_len h (by rintro ds k d ⟨ns, v, rfl, _⟩; rfl)) (fun cdv A outer s H vs Q E hr h => ⟨_, (pss_cons (ps_expr (pe_cal c_check_assignment (hr.mono (by decide)) rfl pass0 (pa_cons (pv 0) (pa_cons pe_str pa_nil))))
      (pss_cons (ps_expr (pe_cal c_require (hr.mono (by decide)) rfl pass0 (pa_cons (pe_cal c_is_integer (hr.mono (by decide)) rfl pass0 (pa_cons (pv 1) (pa_cons pe_int (pa_cons (pe_op op_sub (pe_const rfl T.k_MOST_VARIANTS) pe_int) pa_nil)))) (pa_cons pe_str pa_nil))))
      (pss_one (ps_ret (pe_lc rfl sc_buckets_of.nd (k_enum (K := K) rfl rfl T.b_enumerate (pa_cons (pv 0) pa_nil)) (blkOk_by (own := [("bucket", 2), ("own", 3)]) (N := n_buckets_of) (sc := defScope s_buckets_of) (by decide +kernel)) (fun _ _ _ _ _ => by exact (k_tup (K := K) (n := 2) rfl rfl (pgs_cons (pg_name (i := 2) sc_buckets_of.nd rfl (Or.inl rfl)) (pgs_cons (pg_name (i := 3) sc_buckets_of.nd rfl (Or.inl rfl)) pgs_nil)))) (fun _ _ _ _ _ => by exact (pts_one (pt_cmpR (k_eq (K := K) rfl (rUnits hr)) (pv 3) (pv 1) (nomark _)))) (fun _ _ _ _ _ => by exact (pv 2))))))), run_pure (N := n_buckets_of) (fun ds k d hp => ?_) h⟩)
  obtain ⟨ns, v, rfl, ha, h0, h4, rfl, rfl⟩ := hp
  refine q_drop (d_call (a_cons (d_var rfl) (a_cons d_str a_nil)) ⟨_, _, rfl, ha.small, ha.bAsg (Int.le_refl _), rfl, rfl⟩) ?_
  refine q_drop (d_call (a_cons (d_call (a_cons (d_var rfl) (a_cons d_int (a_cons (d_sub d_int d_int) a_nil))) ⟨.int v, 0, 4, rfl, rfl, rfl⟩) (a_cons d_str a_nil)) ⟨"variant", ?_, rfl, rfl⟩) ?_
  · simp [isIntD, h0, h4]
  refine s_ret (d_lcPI (l := ns.zipIdx) (en := pairI) (fun p => decide (p.1 = v)) (fun p => ((p.2 : Nat) : Int)) (i_enumTI (a_consV (d_var rfl) a_nil)) (by simp; have := ha.len; omega) fun p _ => ⟨_, _, g_tup rfl (g_cons g_name (g_cons g_name g_nil)), fun j hj => hj, t_test (e_eqI (d_var rfl) (d_var rfl)), fun _ => ⟨_, d_var rfl⟩⟩) (.inl rfl) (.inl rfl)

theorem ok_check_bucket {P : Program} {w : World} {K : PySem.W.Frag} {mg : Str → Option Value} {base : Heap} {f : Addr} {fd : FuncData} (F : Fun K "check_bucket" "check_bucket" s_check_bucket f fd) (T : Txt mg) (c_require : Cal P w K mg base CX0 1 "require" p_require (sp_require K)) (c_is_integer : Cal P w K mg base CX0 1 "is_integer" p_is_integer (sp_is_integer K)) :
    FnOk P w K mg base CX0 2 f fd p_check_bucket (sp_check_bucket K) := by
  refine F.ok sc_check_bucket (fun vs H Q E h => spD_len h (by rintro ds k d ⟨b, n, rfl, _⟩; rfl)) (fun cdv A outer s H vs Q E hr h => ⟨_, (pss_one (ps_expr (pe_cal c_require (hr.mono (by decide)) rfl pass0 (pa_cons (pe_cal c_is_integer (hr.mono (by decide)) rfl pass0 (pa_cons (pv 0) (pa_cons pe_int (pa_cons (pe_op op_sub (pv 1) pe_int) pa_nil)))) (pa_cons pe_str pa_nil))))), run_pure (N := n_check_bucket) (fun ds k d hp => ?_) h⟩)
  obtain ⟨b, n, rfl, h1, h2, rfl, rfl⟩ := hp
  refine s_drop (d_call (a_cons (d_call (k := .v) (d := .bool true) (a_cons (d_var rfl) (a_cons d_int (a_cons (d_sub (d_var rfl) d_int) a_nil))) ⟨.int b, 0, n - 1, rfl, rfl, ?_⟩) (a_cons d_str a_nil)) ⟨_, rfl, rfl, rfl⟩) (.inr ⟨rfl, rfl, _, rfl⟩)
  have e1 : decide (0 ≤ b) = true := decide_eq_true h1
  have e2 : decide (b ≤ n - 1) = true := decide_eq_true (by omega)
  simp [isIntD, e1, e2]

theorem ok_are_lists {P : Program} {w : World} {K : PySem.W.Frag} {mg : Str → Option Value} {base : Heap} {f : Addr} {fd : FuncData} (F : Fun K "are_lists" "are_lists" s_are_lists f fd) (T : Txt mg) (c_are_integers : Cal P w K mg base CX0 2 "are_integers" p_are_integers (sp_are_integers K)) :
    FnOk P w K mg base CX0 3 f fd p_are_lists (sp_are_listsX K) := by
  refine F.ok sc_are_lists (fun vs H Q E h => spD_len h (by rintro ds k d ⟨x, v, b, rfl, _⟩; rfl)) (fun cdv A outer s H vs Q E hr h => ⟨_, (pss_cons (ps_if (PW.pt (pw_or (pt_not (pt_val (pe_callB (k_isi (K := K) rfl) rfl T.b_isinstance (by decide +kernel) (pa_cons (pv 0) (pa_cons (pe_ty (n := "tuple") rfl T.b_tuple (by decide +kernel)) pa_nil))))) (pw_or1 (pt_cmpR (k_ne (K := K) rfl (rUnits hr)) (pe_callB (k_len (K := K) rfl) rfl T.b_len (by decide +kernel) (pa_cons (pv 0) pa_nil)) (pv 1) (nomark _))))) (pss_one (ps_ret pe_bl)) pss_nil)
      (pss_one (ps_ret (pe_callB (k_all (K := K) rfl rfl) rfl T.b_all (by decide +kernel) (pa_cons (pe_lc rfl sc_are_lists.nd (k_seq (K := K) rfl (pv 0)) (blkOk_by (own := [("row", 3)]) (N := n_are_lists) (sc := defScope s_are_lists) (by decide +kernel)) (fun _ _ _ _ _ => by exact (pg_name (i := 3) sc_are_lists.nd rfl (Or.inl rfl))) (fun _ _ _ _ _ => by exact pts_nil) (fun _ _ _ _ _ => by exact (pe_and (pe_cal c_are_integers (hr.mono (by decide)) rfl pass0 (pa_cons (pv 3) (pa_cons pe_int (pa_cons (pe_op op_sub (pv 2) pe_int) pa_nil)))) (pe_one (pe_cmpR (k_eq (K := K) rfl (rUnits hr)) (k_lenSet (K := K) rfl rfl T.b_len rfl T.b_set (pv 3)) (pe_callB (k_len (K := K) rfl) rfl T.b_len (by decide +kernel) (pa_cons (pv 3) pa_nil)) (nomark _)))))) pa_nil))))), run_pure (N := n_are_lists) (fun ds k d hp => ?_) h⟩)
  obtain ⟨x, v, b, rfl, hs, rfl, rfl⟩ := hp
  cases x with
  | tuple es =>
    obtain ⟨le, sm⟩ := hs es rfl
    have e0 : alB (.tuple es) v b = (decide ((es.length : Int) = v) && es.all (rwB b)) := rfl
    rw [e0]
    refine q_if (a := !decide ((es.length : Int) = v)) (EvT.to (t_or (a := false) (b := !decide ((es.length : Int) = v)) (EvT.to (t_not (t_B (e_isi (d_var rfl) rfl))) rfl) fun _ => t_test (e_neI (d_lenT (d_var rfl)) (d_var rfl))) rfl) (fun z => ?_) fun z => q_next ?_
    · refine q_ret (d_bl.to ?_) (.inr ⟨rfl, rfl⟩) (.inl rfl)
      rw [Bool.not_eq_true'] at z
      rw [z]; rfl
    · rw [Bool.not_eq_false'] at z
      rw [z, Bool.true_and]
      refine s_ret ((d_all (d_lcB (l := es) (en := Im.d) (rwB b) (i_seqT (d_var rfl) kv_ne) (by omega) fun r hr => ⟨_, _, g_name, fun j hj => hj, .v, (d_andV (a := areInts r 0 (b - 1)) (b := decide (((sdI (intsD r)).length : Int) = ((intsD r).length : Int))) (d_call (k := .v) (a_cons (d_var rfl) (a_cons d_int (a_cons (d_sub (d_var rfl) d_int) a_nil))) ⟨r, 0, b - 1, rfl, (sm r hr).t, rfl, rfl⟩) fun ha => ?_).to rfl⟩)).to (by rw [List.all_map]; rfl)) (.inr ⟨rfl, rfl⟩) (.inl rfl)
      obtain ⟨ns, rfl, _⟩ := areInts_ints ha
      have l1 : ns.length < 64 := by have := sm _ hr _ rfl; simpa using this
      rw [show intsD (.tuple (ns.map .int)) = ns from intsD_tup ns]
      exact (e_eqI (e_lenSet (ks := sdI ns) (d_var rfl) (by omega) ((sd_pw ns).imp fun w e => by omega) fun k => mem_sd) (d_lenT (d_var rfl))).to (by rw [List.length_map])
  | _ => exact q_if (a := true) (EvT.to (t_or (a := true) (b := true) (EvT.to (t_not (t_B (e_isi (d_var rfl) (kit_tuple _)))) rfl) fun w => by cases w) rfl) (fun _ => q_ret d_bl (.inr ⟨rfl, rfl⟩) (.inl rfl)) fun z => by cases z

theorem ok_short_list {P : Program} {w : World} {K : PySem.W.Frag} {mg : Str → Option Value} {base : Heap} {f : Addr} {fd : FuncData} (F : Fun K "short_list" "short_list" s_short_list f fd) (T : Txt mg) (c_buckets_of : Cal P w K mg base CX0 5 "buckets_of" p_buckets_of (sp_buckets_of K)) :
    FnOk P w K mg base CX0 6 f fd p_short_list (sp_short_list K) := by
  refine F.ok sc_short_list (fun vs H Q E h => spD_len h (by rintro ds k d ⟨T, v, rfl, _⟩; rfl)) (fun cdv A outer s H vs Q E hr h => ⟨_, (pss_cons (ps_set (i := 2) sc_short_list.nd rfl (Or.inr rfl) (pe_lst pa_nil))
      (pss_cons (ps_for PassesOwn.never rfl (k_seq (K := K) rfl (k_sortLen (K := K) rfl (rUnits hr) rfl T.b_sorted rfl T.b_len (pa_cons (pe_lc rfl sc_short_list.nd (k_seq (K := K) rfl (pv 0)) (blkOk_by (own := [("assignment", 4)]) (N := n_short_list) (sc := defScope s_short_list) (by decide +kernel)) (fun _ _ _ _ _ => by exact (pg_name (i := 4) sc_short_list.nd rfl (Or.inl rfl))) (fun _ _ _ _ _ => by exact pts_nil) (fun _ _ _ _ _ => by exact (pe_cal c_buckets_of (hr.mono (by decide)) rfl pass0 (pa_cons (pv 4) (pa_cons (pv 1) pa_nil))))) pa_nil))) (pg_name (i := 3) sc_short_list.nd rfl (Or.inl rfl)) (pss_one (ps_expr (k_bm (K := K) rfl PySem.F.plainAttrs_list PySem.F.slot_list_extend PySem.F.type_list_extend mt_extend (pv 2) (pa_cons (pe_lc rfl sc_short_list.nd (k_seq (K := K) rfl (pv 3)) (blkOk_by (own := [("bucket", 5)]) (N := n_short_list) (sc := defScope s_short_list) (by decide +kernel)) (fun _ _ _ _ _ => by exact (pg_name (i := 5) sc_short_list.nd rfl (Or.inl rfl))) (fun _ _ _ _ _ => by exact (pts_one (pt_cmpR (k_notIn (K := K) rfl) (pv 5) (pv 2) (by with_unfolding_all rfl)))) (fun _ _ _ _ _ => by exact (pv 5))) pa_nil)))))
      (pss_one (ps_ret (pe_callTy (k_tuple (K := K) rfl) rfl T.b_tuple (by decide +kernel) (pa_cons (pv 2) pa_nil)))))), run_pure (N := n_short_list) (fun ds k d hp => ?_) h⟩)
  obtain ⟨T, v, rfl, hT, l20, v0, v4, rfl, rfl⟩ := hp
  obtain ⟨F, eF⟩ : ∃ F : List Int → List Int → List Int, F = fun acc row => acc ++ row.filter fun x => !decide (x ∈ acc) := ⟨_, rfl⟩
  obtain ⟨R, eR⟩ : ∃ R, R = (T.map fun ns => placesI ns v).mergeSort lenI := ⟨_, rfl⟩
  have es : slL T v = R.foldl F [] := by rw [eR, eF]; rfl
  have pl : ∀ ns : List Int, (placesI ns v).length ≤ ns.length := fun ns => by
    unfold placesI
    rw [List.length_map]
    have := List.length_filter_le (fun p : Int × Nat => decide (p.1 = v)) ns.zipIdx
    rw [List.length_zipIdx] at this
    exact this
  have rl : ∀ r ∈ R, r.length ≤ 20 := fun r hr => by
    rw [eR] at hr
    obtain ⟨ns, hn, rfl⟩ := List.mem_map.mp ((List.mergeSort_perm _ _).mem_iff.mp hr)
    exact Nat.le_trans (pl ns) (hT ns hn).2
  have Rl : R.length ≤ 20 := by rw [eR, List.length_mergeSort, List.length_map]; exact l20
  have al : ∀ n, n ≤ R.length → ((R.take n).foldl F []).length ≤ 20 * n := fun n => by
    induction n with
    | zero => intro _; simp
    | succ n ih =>
      intro hn
      have tk : R.take (n + 1) = R.take n ++ [R[n]] := by rw [List.take_add_one, List.getElem?_eq_getElem (by omega)]; rfl
      have r1 := rl R[n] (List.getElem_mem _)
      have := ih (by omega)
      rw [tk, List.foldl_append]
      show (F _ R[n]).length ≤ _
      rw [eF]
      simp only [List.length_append]
      have := List.length_filter_le (fun x => !decide (x ∈ (R.take n).foldl F [])) R[n]
      rw [eF] at this ih
      omega
  refine q_asgO (d := .list (([] : List Int).map .int)) (d_lst (kv := false) (ds := []) a_nil rfl (by decide)) ?_
  refine q_for (items := R.map fun r => Im.d (lstD r)) (i_seqL' (ds := R.map lstD) ((e_sortLen (R := T.map fun ns => placesI ns v) ((d_lcA (l := T) (en := fun ns => Im.d (tupD ns)) (fun ns => lstD (placesI ns v)) (i_seqL' (ds := T.map tupD) (d_var rfl) kv_ne (by rw [List.map_map]; rfl)) (by omega) fun ns hn => ⟨_, _, g_name, fun j hj => hj, d_call (k := .o) (a_cons (d_var rfl) (a_cons (d_var rfl) a_nil)) ⟨ns, v, rfl, (hT ns hn).1, v0, v4, rfl, rfl⟩⟩).to (by rw [List.map_map]; rfl)) ko_ne (by rw [List.length_map]; omega)).to (by rw [eR])) kv_ne (by rw [List.map_map]; rfl))
    (fun n Γ1 => ∃ t3, Γ1 = [some (.v (.list (T.map tupD))), some (.v (.int v)), some (.o (.list (((R.take n).foldl F []).map .int))), t3, none, none]) ⟨_, rfl⟩ (fun n a Γ1 hn' hI => ?_) (fun Γ1 hI => ?_)
  · obtain ⟨t3, rfl⟩ := hI
    have hn : n < R.length := by have := (List.getElem?_eq_some_iff.mp hn').1; simpa using this
    obtain ⟨r, hr⟩ : ∃ r, r = R[n] := ⟨_, rfl⟩
    have ea : a = .d (lstD r) := by
      rw [List.getElem?_map, List.getElem?_eq_getElem hn, ← hr] at hn'
      exact (Option.some.inj hn').symm
    subst ea
    have r20 := rl r (hr ▸ List.getElem_mem hn)
    have tk : R.take (n + 1) = R.take n ++ [r] := by rw [List.take_add_one, List.getElem?_eq_getElem hn, ← hr]; rfl
    have acl := al n (by omega)
    obtain ⟨acc, eacc⟩ : ∃ acc, acc = (R.take n).foldl F [] := ⟨_, rfl⟩
    have e1 : (R.take (n + 1)).foldl F [] = acc ++ r.filter fun x => !decide (x ∈ acc) := by
      rw [tk, List.foldl_append, ← eacc, eF]
      rfl
    rw [e1, ← eacc]
    rw [← eacc] at acl
    refine ⟨_, _, g_name, s_ext rfl (es := (r.filter fun x => !decide (x ∈ acc)).map .int) (d_lc (l := r) (en := imI) (fun x => !decide (x ∈ acc)) PyData.int (i_seqLI (d_var rfl) kv_ne) (by omega) fun x hx => ⟨_, _, g_name, fun j hj => hj, t_test (d_inL (neg := true) (d_var rfl) (d_varO rfl)), fun _ => (d_var rfl).fo rfl⟩) (flatAll_ints _) (by have := List.length_filter_le (fun x => !decide (x ∈ acc)) r; rw [List.length_map, List.length_map]; omega) (.inl ⟨_, .inl rfl, some (.v (lstD r)), ?_⟩)⟩
    rw [List.map_append]
    rfl
  · obtain ⟨t3, rfl⟩ := hI
    rw [List.length_map, List.take_length, ← es]
    exact s_ret (d_tuple (d_varO rfl) (flatAll_ints _)) (.inr ⟨rfl, flatT _⟩) (.inl rfl)

theorem ok_fits {P : Program} {w : World} {K : PySem.W.Frag} {mg : Str → Option Value} {base : Heap} {f : Addr} {fd : FuncData} (F : Fun K "fits" "fits" s_fits f fd) (T : Txt mg) :
    FnOk P w K mg base CX0 1 f fd p_fits (sp_fits K) := by
  refine F.ok sc_fits (fun vs H Q E h => spD_len h (by rintro ds k d ⟨r, own, rfl, _⟩; rfl)) (fun cdv A outer s H vs Q E hr h => ⟨_, (pss_one (ps_ret (pe_cmpR (k_eq (K := K) rfl (rUnits hr)) (pe_callB (k_sorted (K := K) rfl) rfl T.b_sorted (by decide +kernel) (pa_cons (pe_slice (k_slT (K := K) rfl) (pv 0) po_none (po_some (pe_callB (k_len (K := K) rfl) rfl T.b_len (by decide +kernel) (pa_cons (pv 1) pa_nil)))) pa_nil)) (pv 1) (nomark _)))), run_pure (N := n_fits) (fun ds k d hp => ?_) h⟩)
  obtain ⟨r, own, rfl, hl, rfl, rfl⟩ := hp
  have cl : (cutD r none (some ((own.length : Nat) : Int))).length < 64 := Nat.lt_of_le_of_lt cut_le hl
  exact s_ret (e_eqLL (e_sortedTd (ns := cutD r none (some ((own.length : Nat) : Int))) ((e_sl (d_var rfl) o_none (o_some ((d_lenL (d_var rfl)).to (y := .int ((own.length : Nat) : Int)) (by rw [List.length_map])))).to (by rw [cut_map])) cl) (d_var rfl)) (.inr ⟨rfl, rfl⟩) (.inl rfl)

theorem ok_check_rule {P : Program} {w : World} {K : PySem.W.Frag} {mg : Str → Option Value} {base : Heap} {f : Addr} {fd : FuncData} (F : Fun K "check_rule" "check_rule" s_check_rule f fd) (T : Txt mg) (c_require : Cal P w K mg base CX0 1 "require" p_require (sp_require K)) (c_is_rule : Cal P w K mg base CX0 8 "is_rule" p_is_rule (sp_is_ruleX K)) :
    FnOk P w K mg base CX0 9 f fd p_check_rule (sp_check_rule K) := by
  refine F.ok sc_check_rule (fun vs H Q E h => spD_len h (by rintro ds k d ⟨R, v, b, rfl, _⟩; rfl)) (fun cdv A outer s H vs Q E hr h => ⟨_, (pss_one (ps_expr (pe_cal c_require (hr.mono (by decide)) rfl pass0 (pa_cons (pe_cal c_is_rule (hr.mono (by decide)) rfl pass0 (pa_cons (pv 2) (pa_cons (pv 0) (pa_cons (pv 1) pa_nil)))) (pa_cons pe_str pa_nil))))), run_pure (N := n_check_rule) (fun ds k d hp => ?_) h⟩)
  obtain ⟨R, v, b, rfl, h, rfl, rfl⟩ := hp
  have v1 := h.v1
  have v5 := h.v5
  have b0 := h.b0
  have b20 := h.b20
  obtain ⟨v, rfl⟩ := Int.eq_ofNat_of_zero_le (show 0 ≤ v by omega)
  obtain ⟨b, rfl⟩ := Int.eq_ofNat_of_zero_le b0
  exact s_drop (d_call (k := .v) (d := .none) (a_cons (d_call (k := .v) (d := .bool true) (a_cons (d_var rfl) (a_cons (d_var rfl) (a_cons (d_var rfl) a_nil))) ⟨.tuple (R.map rlD), v, b, rfl, by omega, by omega, by omega, rfl, .inl ⟨R, rfl, h, rfl⟩⟩) (a_cons d_str a_nil)) ⟨_, rfl, rfl, rfl⟩) (.inr ⟨rfl, rfl, _, rfl⟩)

theorem ok_is_pair {P : Program} {w : World} {K : PySem.W.Frag} {mg : Str → Option Value} {base : Heap} {f : Addr} {fd : FuncData} (F : Fun K "is_pair" "is_pair" s_is_pair f fd) (T : Txt mg) (c_is_allocation : Cal P w K mg base CX0 3 "is_allocation" p_is_allocation (sp_is_allocation K)) (c_is_assignment_of : Cal P w K mg base CX0 6 "is_assignment_of" p_is_assignment_of (sp_is_assignment_ofX K)) :
    FnOk P w K mg base CX0 7 f fd p_is_pair (sp_is_pairX K) := by
  refine F.ok sc_is_pair (fun vs H Q E h => spD_len h (by rintro ds k d ⟨x, v, b, rfl, _⟩; rfl)) (fun cdv A outer s H vs Q E hr h => ⟨_, (pss_cons (ps_if (PW.pt (pw_or (pt_not (pt_val (pe_callB (k_isi (K := K) rfl) rfl T.b_isinstance (by decide +kernel) (pa_cons (pv 0) (pa_cons (pe_ty (n := "tuple") rfl T.b_tuple (by decide +kernel)) pa_nil))))) (pw_or1 (pt_cmpR (k_ne (K := K) rfl (rUnits hr)) (pe_callB (k_len (K := K) rfl) rfl T.b_len (by decide +kernel) (pa_cons (pv 0) pa_nil)) pe_int (nomark _))))) (pss_one (ps_ret pe_bl)) pss_nil)
      (pss_one (ps_ret (pe_and (pe_cal c_is_allocation (hr.mono (by decide)) rfl pass0 (pa_cons (pe_ix (k_ix (K := K) rfl) (pv 0) pe_int (fun _ _ => rfl)) (pa_cons (pv 1) (pa_cons (pv 2) pa_nil)))) (pe_one (pe_cal c_is_assignment_of (hr.mono (by decide)) rfl pass0 (pa_cons (pe_ix (k_ix (K := K) rfl) (pv 0) pe_int (fun _ _ => rfl)) (pa_cons (pe_ix (k_ix (K := K) rfl) (pv 0) pe_int (fun _ _ => rfl)) pa_nil)))))))), run_pure (N := n_is_pair) (fun ds k d hp => ?_) h⟩)
  obtain ⟨x, v, b, rfl, v1, v5, b20, rfl, hx⟩ := hp
  rcases hx with ⟨p, rfl, h, rfl⟩ | ⟨no, rfl⟩
  · have hl := h.alc.len
    refine q_no ((t_or (a := false) (b := false) ((t_not (t_B (e_isi (d_var rfl) rfl))).to rfl) fun _ => (t_test (e_neI (d_lenT (d_var rfl)) d_int)).to rfl).to rfl) ?_
    exact s_ret (d_andV (a := true) (b := true) (d_call (k := .v) (d := .bool true) (a_cons (e_ixT (d_var rfl) d_int rfl (flatT _)) (a_cons (d_var rfl) (a_cons (d_var rfl) a_nil))) ⟨tupD p.1, v, b, rfl, small_ints (by omega), rfl, by rw [h.alc.isAlloc]⟩) fun _ => (d_call (k := .v) (a_cons (e_ixT (d_var rfl) d_int rfl (flatT _)) (a_cons (e_ixT (d_var rfl) d_int rfl (flatT _)) a_nil)) ⟨tupD p.2, p.1, v, b, rfl, h.alc, v1, v5, b20, rfl, .inl ⟨p.2, rfl, h.asg (by omega), by have := h.len; omega, rfl⟩⟩).to (by rw [h.cnt]; simp)) (.inr ⟨rfl, rfl⟩) (.inl rfl)
  · rcases no with nt | ⟨es, rfl, hl⟩ | ⟨a, y, rfl, sa, na⟩ | ⟨as, y, rfl, ha, ny⟩
    · have it : isTupTy x = false := by
        cases x <;> first | rfl | exact absurd rfl (nt _)
      exact q_if (a := true) (EvT.to (t_or (a := true) (b := true) (EvT.to (t_not (t_B (e_isi (d_var rfl) (kit_tuple x)))) (by rw [it]; rfl)) fun e => nomatch e) rfl) (fun _ => q_ret (d_bl (a := false)) (.inr ⟨rfl, rfl⟩) (.inl rfl)) fun e => nomatch e
    · exact q_if (a := true) (EvT.to (t_or (a := false) (b := true) (EvT.to (t_not (t_B (e_isi (d_var rfl) rfl))) rfl) fun _ => EvT.to (t_test (e_neI (d_lenT (d_var rfl)) d_int)) (by simp; omega)) rfl) (fun _ => q_ret (d_bl (a := false)) (.inr ⟨rfl, rfl⟩) (.inl rfl)) fun e => nomatch e
    · refine q_no ((t_or (a := false) (b := false) ((t_not (t_B (e_isi (d_var rfl) rfl))).to rfl) fun _ => (t_test (e_neI (d_lenT (d_var rfl)) d_int)).to rfl).to rfl) ?_
      exact s_ret (Ev.to (d_andV (a := false) (b := false) (d_call (k := .v) (d := .bool false) (a_cons (e_ixTv (d_var rfl) d_int rfl) (a_cons (d_var rfl) (a_cons (d_var rfl) a_nil))) ⟨a, v, b, rfl, sa, rfl, by rw [na]⟩) fun e => nomatch e) rfl) (.inr ⟨rfl, rfl⟩) (.inl rfl)
    · have hl := ha.len
      refine q_no ((t_or (a := false) (b := false) ((t_not (t_B (e_isi (d_var rfl) rfl))).to rfl) fun _ => (t_test (e_neI (d_lenT (d_var rfl)) d_int)).to rfl).to rfl) ?_
      exact s_ret (Ev.to (d_andV (a := true) (b := false) (d_call (k := .v) (d := .bool true) (a_cons (e_ixT (d_var rfl) d_int rfl (flatT _)) (a_cons (d_var rfl) (a_cons (d_var rfl) a_nil))) ⟨tupD as, v, b, rfl, small_ints (by omega), rfl, by rw [ha.isAlloc]⟩) fun _ => d_call (k := .v) (d := .bool false) (a_cons (e_ixTv (d_var rfl) d_int rfl) (a_cons (e_ixT (d_var rfl) d_int rfl (flatT _)) a_nil)) ⟨y, as, v, b, rfl, ha, v1, v5, b20, rfl, .inr ⟨ny, rfl⟩⟩) rfl) (.inr ⟨rfl, rfl⟩) (.inl rfl)

theorem ok_is_rule {P : Program} {w : World} {K : PySem.W.Frag} {mg : Str → Option Value} {base : Heap} {f : Addr} {fd : FuncData} (F : Fun K "is_rule" "is_rule" s_is_rule f fd) (T : Txt mg) (c_check_sizes : Cal P w K mg base CX0 3 "check_sizes" p_check_sizes (sp_check_sizes K)) (c_is_pair : Cal P w K mg base CX0 7 "is_pair" p_is_pair (sp_is_pairX K)) :
    FnOk P w K mg base CX0 8 f fd p_is_rule (sp_is_ruleX K) := by
  refine F.ok sc_is_rule (fun vs H Q E h => spD_len h (by rintro ds k d ⟨x, v, b, rfl, _⟩; rfl)) (fun cdv A outer s H vs Q E hr h => ⟨_, (pss_cons (ps_expr (pe_cal c_check_sizes (hr.mono (by decide)) rfl pass0 (pa_cons (pv 1) (pa_cons (pv 2) pa_nil))))
      (pss_cons (ps_if (PW.pt (pw_or (pt_not (pt_val (pe_callB (k_isi (K := K) rfl) rfl T.b_isinstance (by decide +kernel) (pa_cons (pv 0) (pa_cons (pe_ty (n := "tuple") rfl T.b_tuple (by decide +kernel)) pa_nil))))) (pw_or1 (pt_cmpR op_gt (pe_callB (k_len (K := K) rfl) rfl T.b_len (by decide +kernel) (pa_cons (pv 0) pa_nil)) (pe_const rfl T.k_MOST_PAIRS) (nomark _))))) (pss_one (ps_ret pe_bl)) pss_nil)
      (pss_cons (ps_if (pt_not (pt_val (pe_callB (k_all (K := K) rfl rfl) rfl T.b_all (by decide +kernel) (pa_cons (pe_lc rfl sc_is_rule.nd (k_seq (K := K) rfl (pv 0)) (blkOk_by (own := [("pair", 3)]) (N := n_is_rule) (sc := defScope s_is_rule) (by decide +kernel)) (fun _ _ _ _ _ => by exact (pg_name (i := 3) sc_is_rule.nd rfl (Or.inl rfl))) (fun _ _ _ _ _ => by exact pts_nil) (fun _ _ _ _ _ => by exact (pe_cal c_is_pair (hr.mono (by decide)) rfl pass0 (pa_cons (pv 3) (pa_cons (pv 1) (pa_cons (pv 2) pa_nil)))))) pa_nil)))) (pss_one (ps_ret pe_bl)) pss_nil)
      (pss_one (ps_ret (pe_cmpR (k_eq (K := K) rfl (rUnits hr)) (k_lenSetR (K := K) rfl rfl T.b_len rfl T.b_set (pe_lc rfl sc_is_rule.nd (k_seq (K := K) rfl (pv 0)) (blkOk_by (own := [("allocation", 4), ("_", 5)]) (N := n_is_rule) (sc := defScope s_is_rule) (by decide +kernel)) (fun _ _ _ _ _ => by exact (k_tup (K := K) (n := 2) rfl rfl (pgs_cons (pg_name (i := 4) sc_is_rule.nd rfl (Or.inl rfl)) (pgs_cons (pg_name (i := 5) sc_is_rule.nd rfl (Or.inl rfl)) pgs_nil)))) (fun _ _ _ _ _ => by exact pts_nil) (fun _ _ _ _ _ => by exact (pv 4))) (rUnits5 hr)) (pe_callB (k_len (K := K) rfl) rfl T.b_len (by decide +kernel) (pa_cons (pv 0) pa_nil)) (nomark _))))))), run_pure (N := n_is_rule) (fun ds k d hp => ?_) h⟩)
  obtain ⟨x, v, b, rfl, v1, v5, b20, rfl, hx⟩ := hp
  refine q_drop (d_call (k := .v) (d := .none) (a_cons (d_var rfl) (a_cons (d_var rfl) a_nil)) ⟨v, b, rfl, by omega, by omega, by omega, by omega, rfl, rfl⟩) ?_
  have good : ∀ (R : List Pr) (d : PyData), R.length ≤ 20 → (∀ p ∈ R, OkP p (v : Int) (b : Int)) → d = .bool (decide ((R.map (·.1)).Nodup)) → x = .tuple (R.map rlD) → NoR x v b ∨ d = .bool true := fun R d hl hok hd hx => by
    by_cases q : (R.map (·.1)).Nodup
    · exact .inr (by rw [hd, decide_eq_true q])
    · exact .inl (.inr (.inr (.inr ⟨R, hx, hl, hok, q⟩)))
  have body : (∃ R : List Pr, x = .tuple (R.map rlD) ∧ R.length ≤ 20 ∧ (∀ p ∈ R, OkP p (v : Int) (b : Int)) ∧ d = .bool (decide ((R.map (·.1)).Nodup))) ∨ (((∀ es, x ≠ .tuple es) ∨ (∃ es, x = .tuple es ∧ 20 < es.length) ∨ ∃ y, x = .tuple [y] ∧ NoP y v b) ∧ d = .bool false) := by
    rcases hx with ⟨R, hx, h, hd⟩ | ⟨no, hd⟩
    · exact .inl ⟨R, hx, h.len, h.ok, by rw [hd, decide_eq_true h.nd]⟩
    · rcases no with h | h | h | ⟨R, hx, hl, hok, hn⟩
      · exact .inr ⟨.inl h, hd⟩
      · exact .inr ⟨.inr (.inl h), hd⟩
      · exact .inr ⟨.inr (.inr h), hd⟩
      · exact .inl ⟨R, hx, hl, hok, by rw [hd, decide_eq_false hn]⟩
  rcases body with ⟨R, rfl, hl, hok, rfl⟩ | ⟨no, rfl⟩
  · refine q_no ((t_or (a := false) (b := false) ((t_not (t_B (e_isi (d_var rfl) rfl))).to rfl) fun _ => (t_test (d_gt (d_lenT (d_var rfl)) d_int)).to (by rw [List.length_map]; exact decide_eq_false (by omega))).to rfl) ?_
    refine q_no ((t_not (t_B ((d_all (d_lcB (l := R) (en := rlI) (fun _ => true) (i_prs (d_var rfl) kv_ne) (by omega) fun p hp => ⟨_, _, g_name, fun j hj => hj, .v, d_call (k := .v) (a_cons (d_var rfl) (a_cons (d_var rfl) (a_cons (d_var rfl) a_nil))) ⟨rlD p, v, b, rfl, v1, v5, b20, rfl, .inl ⟨p, rfl, hok p hp, rfl⟩⟩⟩)).to (y := .bool true) (by simp)))).to rfl) ?_
    refine s_ret ((e_eqI (e_lenSetL (A := R.map (·.1)) ((d_lcA (l := R) (en := rlI) (fun p => tupD p.1) (i_prs (d_var rfl) kv_ne) (by omega) fun p hp => ⟨_, _, g_tupD rfl (g_cons g_name (g_cons g_name g_nil)), fun j hj => hj, (d_var rfl).fo (flatT _)⟩).to (by rw [List.map_map]; rfl)) (by rw [List.length_map]; omega)) (d_lenT (d_var rfl))).to ?_) (.inr ⟨rfl, rfl⟩) (.inl rfl)
    congr 1
    rw [decide_eq_decide, ← ddR_iff, List.length_map, List.length_map]
    omega
  · rcases no with nt | ⟨es, rfl, hl⟩ | ⟨y, rfl, ny⟩
    · have it : isTupTy x = false := by
        cases x <;> first | rfl | exact absurd rfl (nt _)
      exact q_if (a := true) (EvT.to (t_or (a := true) (b := true) (EvT.to (t_not (t_B (e_isi (d_var rfl) (kit_tuple x)))) (by rw [it]; rfl)) fun e => nomatch e) rfl) (fun _ => q_ret (d_bl (a := false)) (.inr ⟨rfl, rfl⟩) (.inl rfl)) fun e => nomatch e
    · exact q_if (a := true) (EvT.to (t_or (a := false) (b := true) (EvT.to (t_not (t_B (e_isi (d_var rfl) rfl))) rfl) fun _ => EvT.to (t_test (d_gt (d_lenT (d_var rfl)) d_int)) (decide_eq_true (by omega))) rfl) (fun _ => q_ret (d_bl (a := false)) (.inr ⟨rfl, rfl⟩) (.inl rfl)) fun e => nomatch e
    · refine q_no ((t_or (a := false) (b := false) ((t_not (t_B (e_isi (d_var rfl) rfl))).to rfl) fun _ => (t_test (d_gt (d_lenT (d_var rfl)) d_int)).to rfl).to rfl) ?_
      exact q_if (a := true) (EvT.to (t_not (t_B (Ev.to (y := .bool false) (d_all (d_lcB (l := [y]) (en := Im.d) (fun _ => false) (i_seqT (d_var rfl) kv_ne) (by simp) fun p hp => ⟨_, _, g_name, fun j hj => hj, .v, d_call (k := .v) (a_cons (d_var rfl) (a_cons (d_var rfl) (a_cons (d_var rfl) a_nil))) ⟨p, v, b, rfl, v1, v5, b20, rfl, .inr ⟨by rw [List.mem_singleton.mp hp]; exact ny, rfl⟩⟩⟩)) rfl))) rfl) (fun _ => q_ret (d_bl (a := false)) (.inr ⟨rfl, rfl⟩) (.inl rfl)) fun e => nomatch e

theorem ok_given_back {P : Program} {w : World} {K : PySem.W.Frag} {mg : Str → Option Value} {base : Heap} {f : Addr} {fd : FuncData} (F : Fun K "given_back" "given_back" s_given_back f fd) (T : Txt mg) :
    FnOk P w K mg base CX0 1 f fd p_given_back (sp_given_back K) := by
  refine F.ok sc_given_back (fun vs H Q E h => spD_len h (by rintro ds k d ⟨as, x, rfl, _⟩; rfl)) (fun cdv A outer s H vs Q E hr h => ⟨_, (pss_cons (ps_set (i := 2) sc_given_back.nd rfl (Or.inl rfl) (pe_callTy (k_list (K := K) rfl) rfl T.b_list (by decide +kernel) (pa_cons (pv 0) pa_nil)))
      (pss_cons (ps_augS (pv 2) (pv 1) (k_getL (K := K) rfl) pe_int ip_sub set_list)
      (pss_cons (ps_augS (pv 2) (pe_const rfl T.k_CONTROL) (k_getL (K := K) rfl) pe_int ip_add set_list)
      (pss_one (ps_ret (pe_callTy (k_tuple (K := K) rfl) rfl T.b_tuple (by decide +kernel) (pa_cons (pv 2) pa_nil))))))), run_pure (N := n_given_back) (fun ds k d hp => ?_) h⟩)
  obtain ⟨as, x, rfl, hx, rfl, rfl⟩ := hp
  refine q_asgO (d := .list (as.map .int)) (e_listT (d_var rfl) (flatAll_ints as)) ?_
  refine q_augL (n := 2) rfl (d_var rfl) hx d_int ?_
  refine q_augL (n := 2) (m := 0) rfl d_int (by rw [List.length_set]; omega) d_int ?_
  exact s_ret (d_tuple (d_varO rfl) (flatAll_ints _)) (.inr ⟨rfl, flatT _⟩) (.inl rfl)

theorem ok_missing {P : Program} {w : World} {K : PySem.W.Frag} {mg : Str → Option Value} {base : Heap} {f : Addr} {fd : FuncData} (F : Fun K "missing" "missing" s_missing f fd) (T : Txt mg) (c_check_rule : Cal P w K mg base CX0 9 "check_rule" p_check_rule (sp_check_rule K)) (c_given_back : Cal P w K mg base CX0 1 "given_back" p_given_back (sp_given_back K)) :
    FnOk P w K mg base CX0 10 f fd p_missing (sp_missing K) := by
  refine F.ok sc_missing (fun vs H Q E h => spD_len h (by rintro ds k d ⟨R, v, b, rfl, _⟩; rfl)) (fun cdv A outer s H vs Q E hr h => ⟨_, (pss_cons (ps_expr (pe_cal c_check_rule (hr.mono (by decide)) rfl pass0 (pa_cons (pv 0) (pa_cons (pv 1) (pa_cons (pv 2) pa_nil)))))
      (pss_cons (ps_setLc (i := 3) rfl sc_missing.nd rfl rfl (sw_true rfl rfl rfl (by decide +kernel)) (k_seq (K := K) rfl (pv 2)) (blkOk_by (own := [("allocation", 4), ("_", 5)]) (N := n_missing) (sc := defScope s_missing) (by decide +kernel)) (fun _ _ _ _ _ => by exact (k_tup (K := K) (n := 2) rfl rfl (pgs_cons (pg_name (i := 4) sc_missing.nd rfl (Or.inl rfl)) (pgs_cons (pg_name (i := 5) sc_missing.nd rfl (Or.inl rfl)) pgs_nil)))) (fun _ _ _ _ _ => by exact pts_nil) (fun _ _ _ _ _ => by exact (pv 4)))
      (pss_cons (ps_for PassesOwn.never rfl (k_enum (K := K) rfl rfl T.b_enumerate (pa_cons (pv 3) pa_nil)) (k_tup (K := K) (n := 2) rfl rfl (pgs_cons (pg_name (i := 6) sc_missing.nd rfl (Or.inl rfl)) (pgs_cons (pg_name (i := 4) sc_missing.nd rfl (Or.inl rfl)) pgs_nil))) (pss_one (ps_for PassesOwn.never rfl (pi_range2 rfl T.b_range (pa_cons (pe_op (k_add (K := K) rfl) (pe_const rfl T.k_CONTROL) pe_int) (pa_cons (pv 0) pa_nil))) (pg_name (i := 7) sc_missing.nd rfl (Or.inl rfl)) (pss_one (ps_if (PW.pt (pw_and (pt_cmpR op_gt (pe_ix (k_ix (K := K) rfl) (pv 4) (pv 7) (fun _ _ => rfl)) pe_int (nomark _)) (pw_and1 (pt_cmpR (k_notInU (K := K) rfl (rUnits5 hr)) (pe_cal c_given_back (hr.mono (by decide)) rfl pass0 (pa_cons (pv 4) (pa_cons (pv 7) pa_nil))) (pv 3) (by with_unfolding_all rfl))))) (pss_one (ps_ret (pe_tupN (pa_cons (pv 6) (pa_cons (pv 7) (pa_cons (pe_cal c_given_back (hr.mono (by decide)) rfl pass0 (pa_cons (pv 4) (pa_cons (pv 7) pa_nil))) pa_nil)))))) pss_nil)))))
      (pss_one (ps_ret pe_non))))), run_pure (N := n_missing) (fun ds k d hp => ?_) h⟩)
  obtain ⟨R, v, b, rfl, h, rfl, rfl⟩ := hp
  have v1 := h.v1
  have v5 := h.v5
  have Rl := h.len
  obtain ⟨A, eA⟩ : ∃ A, A = R.map (·.1) := ⟨_, rfl⟩
  have hA : ∀ a ∈ A, Alc a (v : Int) (b : Int) := fun a ha => by
    rw [eA] at ha
    obtain ⟨p, hp, rfl⟩ := List.mem_map.mp ha
    exact (h.ok p hp).alc
  rw [← eA]
  refine q_drop (d_call (k := .v) (d := .none) (a_cons (d_var rfl) (a_cons (d_var rfl) (a_cons (d_var rfl) a_nil))) ⟨R, v, b, rfl, h, rfl, rfl⟩) ?_
  refine q_asgO (d := .list (A.map tupD)) (Ev.to (d_lcA (l := R) (en := rlI) (fun p => tupD p.1) (i_prs (d_var rfl) kv_ne) (by omega) fun p hp => ⟨_, _, g_tupD rfl (g_cons g_name (g_cons g_name g_nil)), fun j hj => hj, (d_var rfl).fo (flatT _)⟩) (by rw [eA, List.map_map]; rfl)) ?_
  refine s_freeze (n := 3) rfl ?_
  refine q_for (i_mnsE (C := A) (d_var rfl) (.inl rfl))
    (fun n Γ1 => ∃ t4 t6 t7, Γ1 = [some (.v (.int (v : Int))), some (.v (.int (b : Int))), some (.v (.tuple (R.map rlD))), some (.v (.list (A.map tupD))), t4, none, t6, t7] ∧ ∀ i < n, ∀ k < v - 1, misB A i (k + 1) = false) ⟨_, _, _, rfl, by intro i hi; omega⟩ (fun n a Γ1 hn' hI => ?_) (fun Γ1 hI => ?_)
  · obtain ⟨t4, t6, t7, rfl, hq⟩ := hI
    have hn : n < A.length := by have := (List.getElem?_eq_some_iff.mp hn').1; simpa using this
    have ea : a = .t [.d (.int (n : Nat)), .d (tupD (A.getD n []))] := by
      rw [List.getElem?_map, List.getElem?_range hn] at hn'
      exact (Option.some.inj hn').symm
    subst ea
    have am := gL_mem hn
    have al := (hA _ am).len
    refine ⟨_, _, g_tup rfl (g_cons g_name (g_cons g_name g_nil)), s_for (i_rng1v (v := v) (a_cons ((e_add d_int d_int).to (y := .int 1) rfl) (a_cons (d_var rfl) a_nil)) (by omega))
      (fun m Γ1 => ∃ t7, Γ1 = [some (.v (.int (v : Int))), some (.v (.int (b : Int))), some (.v (.tuple (R.map rlD))), some (.v (.list (A.map tupD))), some (.v (tupD (A.getD n []))), none, some (.v (.int (n : Int))), t7] ∧ ∀ k < m, misB A n (k + 1) = false) ⟨_, rfl, by intro k hk; omega⟩ (fun m a Γ1 hm' hI => ?_) (fun Γ1 hI => ?_)⟩
    · obtain ⟨t7, rfl, hk⟩ := hI
      obtain ⟨hm, rfl⟩ := rng1v_at hm'
      have gb : Ev (pc K) (tCall (sp_given_back K) [] E0 (tCons (tVar 4) (tCons (tVar 7) tNil))) [some (.v (.int (v : Int))), some (.v (.int (b : Int))), some (.v (.tuple (R.map rlD))), some (.v (.list (A.map tupD))), some (.v (tupD (A.getD n []))), none, some (.v (.int (n : Int))), some (.v (.int ((m + 1 : Nat) : Int)))] .v (tupD (gbL (A.getD n []) (m + 1))) := d_call (k := .v) (a_cons (d_var rfl) (a_cons (d_var rfl) a_nil)) ⟨A.getD n [], m + 1, rfl, by omega, rfl, rfl⟩
      refine ⟨_, _, g_name, s_if (a := misB A n (m + 1)) (t_and (t_test (d_gt (e_ixT (d_var rfl) (d_var rfl) (at_ints (by omega)) rfl) d_int)) fun _ => t_test (e_ninRL gb (d_var rfl))) (fun z => s_ret (Ev.to (d_tup (a_consV (d_var rfl) (a_consV (d_var rfl) (a_consV gb a_nil))) (by simp)) (y := misF A v) ?_) (.inr ⟨rfl, mis_fl.1⟩) (.inr (.inr ⟨_, _, rfl, .inr (.inr ⟨_, _, rfl, .inl rfl⟩)⟩))) fun z => s_next (.inl ⟨_, .inl rfl, _, rfl, fun k hk' => ?_⟩)⟩
      · rw [mis_here hn hm hq hk z]
        rfl
      · by_cases e : k = m
        · rw [e]; exact z
        · exact hk k (by omega)
    · obtain ⟨t7, rfl, hk⟩ := hI
      rw [List.length_map, List.length_range] at hk
      refine .inl ⟨_, .inl rfl, _, _, _, rfl, fun i hi => ?_⟩
      by_cases e : i = n
      · rw [e]; exact hk
      · exact hq i (by omega)
  · obtain ⟨t4, t6, t7, rfl, hq⟩ := hI
    rw [List.length_map, List.length_range] at hq
    exact s_ret (d_non.to (y := misF A v) (by rw [mis_none0 hq])) (.inr ⟨rfl, mis_fl.1⟩) (.inl rfl)

theorem ok_is_left {P : Program} {w : World} {K : PySem.W.Frag} {mg : Str → Option Value} {base : Heap} {f : Addr} {fd : FuncData} (F : Fun K "is_left" "is_left" s_is_left f fd) (T : Txt mg) :
    FnOk P w K mg base CX0 1 f fd p_is_left (sp_is_left K) := by
  refine F.ok sc_is_left (fun vs H Q E h => spD_len h (by rintro ds k d ⟨p, q, v, b, i, rfl, _⟩; rfl)) (fun cdv A outer s H vs Q E hr h => ⟨_, (pss_cons (ps_asg (pv 0) (k_tupA (K := K) (n := 2) rfl rfl (pgs_cons (pg_name (i := 3) sc_is_left.nd rfl (Or.inl rfl)) (pgs_cons (pg_name (i := 4) sc_is_left.nd rfl (Or.inl rfl)) pgs_nil))))
      (pss_cons (ps_asg (pv 1) (k_tupA (K := K) (n := 2) rfl rfl (pgs_cons (pg_name (i := 5) sc_is_left.nd rfl (Or.inl rfl)) (pgs_cons (pg_name (i := 6) sc_is_left.nd rfl (Or.inl rfl)) pgs_nil))))
      (pss_cons (ps_set (i := 7) sc_is_left.nd rfl (Or.inl rfl) (pe_ix (k_ix (K := K) rfl) (pv 4) (pv 2) (fun _ _ => rfl)))
      (pss_one (ps_ret (pe_and (pe_cmpR (k_ne (K := K) rfl (rUnits hr)) (pv 7) (pe_const rfl T.k_CONTROL) (nomark _)) (pe_and (pe_cmpR (k_ne (K := K) rfl (rUnits hr)) (pe_ix (k_ix (K := K) rfl) (pv 6) (pv 2) (fun _ _ => rfl)) (pv 7) (nomark _)) (pe_one (pe_cmpR op_ge (pe_ix (k_ix (K := K) rfl) (pv 5) (pv 7) (fun _ _ => rfl)) (pe_ix (k_ix (K := K) rfl) (pv 3) (pv 7) (fun _ _ => rfl)) (nomark _)))))))))), run_pure (N := n_is_left) (fun ds k d hp => ?_) h⟩)
  obtain ⟨p, q, v, b, i, rfl, h, g, hi, rfl, rfl⟩ := hp
  have hl := h.len
  have gl := g.len
  have pl := h.alc.len
  have ql := g.alc.len
  have r := h.rng _ (gd_mem (l := p.2) (j := i) (by omega))
  obtain ⟨x, hx⟩ : ∃ x : Nat, p.2.getD i 0 = (x : Int) := ⟨(p.2.getD i 0).toNat, by omega⟩
  refine q_unp (fun d => d = rlD p) (d_var rfl).n ?_
  rintro d rfl
  refine ⟨_, _, _, .inl rfl, by simp [flatAll, flatD, flatAll_ints], rfl, g_cons g_name (g_cons g_name g_nil), ?_⟩
  refine q_unp (fun d => d = rlD q) (d_var rfl).n ?_
  rintro d rfl
  refine ⟨_, _, _, .inl rfl, by simp [flatAll, flatD, flatAll_ints], rfl, g_cons g_name (g_cons g_name g_nil), ?_⟩
  refine q_asg (d := .int (x : Int)) ((e_ixT (d_var rfl) (d_var rfl) (at_ints (by omega)) rfl).to (by rw [hx])) ?_
  refine s_ret ((d_andV (e_neI (d_var rfl) d_int) fun _ => d_andV (e_neI (e_ixT (d_var rfl) (d_var rfl) (at_ints (by omega)) rfl) (d_var rfl)) fun _ => d_ge (e_ixT (d_var rfl) (d_var rfl) (at_ints (ns := q.1) (j := x) (by omega)) rfl) (e_ixT (d_var rfl) (d_var rfl) (at_ints (ns := p.1) (j := x) (by omega)) rfl)).to ?_) (.inr ⟨rfl, rfl⟩) (.inl rfl)
  unfold leftB
  rw [hx]
  rfl

theorem ok_first_left {P : Program} {w : World} {K : PySem.W.Frag} {mg : Str → Option Value} {base : Heap} {f : Addr} {fd : FuncData} (F : Fun K "first_left" "first_left" s_first_left f fd) (T : Txt mg) (c_is_left : Cal P w K mg base CX0 1 "is_left" p_is_left (sp_is_left K)) :
    FnOk P w K mg base CX0 2 f fd p_first_left (sp_first_left K) := by
  refine F.ok sc_first_left (fun vs H Q E h => spD_len h (by rintro ds k d ⟨R, v, b, rfl, _⟩; rfl)) (fun cdv A outer s H vs Q E hr h => ⟨_, (pss_cons (ps_for PassesOwn.never rfl (k_enum (K := K) rfl rfl T.b_enumerate (pa_cons (pv 0) pa_nil)) (k_tup (K := K) (n := 2) rfl rfl (pgs_cons (pg_name (i := 2) sc_first_left.nd rfl (Or.inl rfl)) (pgs_cons (pg_name (i := 3) sc_first_left.nd rfl (Or.inl rfl)) pgs_nil))) (pss_one (ps_for PassesOwn.never rfl (k_enum (K := K) rfl rfl T.b_enumerate (pa_cons (pv 0) pa_nil)) (k_tup (K := K) (n := 2) rfl rfl (pgs_cons (pg_name (i := 4) sc_first_left.nd rfl (Or.inl rfl)) (pgs_cons (pg_name (i := 5) sc_first_left.nd rfl (Or.inl rfl)) pgs_nil))) (pss_one (ps_for PassesOwn.never rfl (pi_range1 rfl T.b_range (pa_cons (pv 1) pa_nil)) (pg_name (i := 6) sc_first_left.nd rfl (Or.inl rfl)) (pss_one (ps_if (pt_val (pe_cal c_is_left (hr.mono (by decide)) rfl pass0 (pa_cons (pv 3) (pa_cons (pv 5) (pa_cons (pv 6) pa_nil))))) (pss_one (ps_ret (pe_tupN (pa_cons (pv 2) (pa_cons (pv 4) (pa_cons (pv 6) pa_nil)))))) pss_nil)))))))
      (pss_one (ps_ret pe_non))), run_pure (N := n_first_left) (fun ds k d hp => ?_) h⟩)
  obtain ⟨R, v, b, rfl, h, rfl, rfl⟩ := hp
  have hl := h.len
  have b0 := h.b0
  have b20 := h.b20
  obtain ⟨B, hB⟩ : ∃ B : Nat, b = (B : Int) := ⟨b.toNat, by omega⟩
  subst hB
  rw [Int.toNat_natCast]
  refine q_for (i_enumP (a_consV (d_var rfl) a_nil))
    (fun i Γ1 => ∃ t2 t3 t4 t5 t6, Γ1 = [some (.v (.tuple (R.map rlD))), some (.v (.int (B : Int))), t2, t3, t4, t5, t6] ∧ ∀ i' < i, ∀ j' < R.length, ∀ k' < B, leftB (gR R i') (gR R j') k' = false) ⟨_, _, _, _, _, rfl, by intro i' h; omega⟩ (fun i a Γ1 hn' hI => ?_) (fun Γ1 hI => ?_)
  · obtain ⟨t2, t3, t4, t5, t6, rfl, hq⟩ := hI
    obtain ⟨hi, rfl⟩ := enumP_at hn'
    refine ⟨_, _, g_tup rfl (g_cons g_name (g_cons g_name g_nil)), s_for (i_enumP (a_consV (d_var rfl) a_nil))
      (fun j Γ1 => ∃ t4 t5 t6, Γ1 = [some (.v (.tuple (R.map rlD))), some (.v (.int (B : Int))), some (.v (.int (i : Nat))), some (.v (rlD (gR R i))), t4, t5, t6] ∧ ∀ j' < j, ∀ k' < B, leftB (gR R i) (gR R j') k' = false) ⟨t4, t5, t6, rfl, by intro i' h; omega⟩ (fun j a Γ1 hn' hI => ?_) (fun Γ1 hI => ?_)⟩
    · obtain ⟨t4, t5, t6, rfl, hq2⟩ := hI
      obtain ⟨hj, rfl⟩ := enumP_at hn'
      refine ⟨_, _, g_tup rfl (g_cons g_name (g_cons g_name g_nil)), s_for (i_rngN (n := B) (a_cons (d_var rfl) a_nil) (by omega))
        (fun m Γ1 => ∃ t6, Γ1 = [some (.v (.tuple (R.map rlD))), some (.v (.int (B : Int))), some (.v (.int (i : Nat))), some (.v (rlD (gR R i))), some (.v (.int (j : Nat))), some (.v (rlD (gR R j))), t6] ∧ ∀ k' < m, leftB (gR R i) (gR R j) k' = false) ⟨t6, rfl, by intro i' h; omega⟩ (fun m a Γ1 hn' hI => ?_) (fun Γ1 hI => ?_)⟩
      · obtain ⟨t6, rfl, hq3⟩ := hI
        obtain ⟨hm, rfl⟩ := rngN_at hn'
        refine ⟨_, _, g_name, s_if (t_B (d_call (k := .v) (a_cons (d_var rfl) (a_cons (d_var rfl) (a_cons (d_var rfl) a_nil))) ⟨gR R i, gR R j, v, B, m, rfl, h.ok _ (gR_mem hi), h.ok _ (gR_mem hj), by omega, rfl, rfl⟩)) (fun w => ?_) fun w => s_next (.inl ⟨_, .inl rfl, _, rfl, fun k' hk' => ?_⟩)⟩
        · refine s_ret ((d_tup (a_consV (d_var rfl) (a_consV (d_var rfl) (a_consV (d_var rfl) a_nil))) (by simp)).to (y := leftF R B) ?_) (.inr ⟨rfl, flat_left⟩) (.inr (.inr ⟨_, _, rfl, .inr (.inr ⟨_, _, rfl, .inr (.inr ⟨_, _, rfl, .inl rfl⟩)⟩)⟩))
          rw [left_here hi hj hm hq hq2 hq3 w]
          rfl
        · by_cases e : k' = m
          · rw [e]; exact w
          · exact hq3 k' (by omega)
      · obtain ⟨t6, rfl, hq3⟩ := hI
        rw [List.length_map, List.length_range] at hq3
        refine .inl ⟨_, .inl rfl, _, _, _, rfl, fun j' hj' => ?_⟩
        by_cases e : j' = j
        · rw [e]; exact hq3
        · exact hq2 j' (by omega)
    · obtain ⟨t4, t5, t6, rfl, hq2⟩ := hI
      rw [List.length_map, List.length_range] at hq2
      refine .inl ⟨_, .inl rfl, _, _, _, _, _, rfl, fun j' hj' => ?_⟩
      by_cases e : j' = i
      · rw [e]; exact hq2
      · exact hq j' (by omega)
  · obtain ⟨t2, t3, t4, t5, t6, rfl, hq⟩ := hI
    rw [List.length_map, List.length_range] at hq
    exact s_ret (d_non.to (y := leftF R B) (left_none.mpr hq).symm) (.inr ⟨rfl, flat_left⟩) (.inl rfl)

theorem ok_needless_leave {P : Program} {w : World} {K : PySem.W.Frag} {mg : Str → Option Value} {base : Heap} {f : Addr} {fd : FuncData} (F : Fun K "needless_leave" "needless_leave" s_needless_leave f fd) (T : Txt mg) (c_check_rule : Cal P w K mg base CX0 9 "check_rule" p_check_rule (sp_check_rule K)) (c_first_left : Cal P w K mg base CX0 2 "first_left" p_first_left (sp_first_left K)) :
    FnOk P w K mg base CX0 10 f fd p_needless_leave (sp_needless_leave K) := by
  refine F.ok sc_needless_leave (fun vs H Q E h => spD_len h (by rintro ds k d ⟨R, v, b, rfl, _⟩; rfl)) (fun cdv A outer s H vs Q E hr h => ⟨_, (pss_cons (ps_expr (pe_cal c_check_rule (hr.mono (by decide)) rfl pass0 (pa_cons (pv 0) (pa_cons (pv 1) (pa_cons (pv 2) pa_nil)))))
      (pss_one (ps_ret (pe_cal c_first_left (hr.mono (by decide)) rfl pass0 (pa_cons (pv 2) (pa_cons (pv 1) pa_nil)))))), run_pure (N := n_needless_leave) (fun ds k d hp => ?_) h⟩)
  obtain ⟨R, v, b, rfl, h, rfl, rfl⟩ := hp
  refine q_drop (d_call (k := .v) (d := .none) (a_cons (d_var rfl) (a_cons (d_var rfl) (a_cons (d_var rfl) a_nil))) ⟨R, v, b, rfl, h, rfl, rfl⟩) ?_
  exact s_ret (d_call (k := .v) (a_cons (d_var rfl) (a_cons (d_var rfl) a_nil)) ⟨R, v, b, rfl, h, rfl, rfl⟩) (.inr ⟨rfl, flat_left⟩) (.inl rfl)

theorem ok_leaves {P : Program} {w : World} {K : PySem.W.Frag} {mg : Str → Option Value} {base : Heap} {f : Addr} {fd : FuncData} (F : Fun K "leaves" "leaves" s_leaves f fd) (T : Txt mg) (c_check_rule : Cal P w K mg base CX0 9 "check_rule" p_check_rule (sp_check_rule K)) (c_require : Cal P w K mg base CX0 1 "require" p_require (sp_require K)) (c_check_bucket : Cal P w K mg base CX0 2 "check_bucket" p_check_bucket (sp_check_bucket K)) (c_is_left : Cal P w K mg base CX0 1 "is_left" p_is_left (sp_is_left K)) (c_is_integer : Cal P w K mg base CX0 1 "is_integer" p_is_integer (sp_is_integer K)) :
    FnOk P w K mg base CX0 10 f fd p_leaves (sp_leaves K) := by
  refine F.ok sc_leaves (fun vs H Q E h => spD_len h (by rintro ds k d ⟨R, v, b, i, j, l, rfl, _⟩; rfl)) (fun cdv A outer s H vs Q E hr h => ⟨_, (pss_cons (ps_expr (pe_cal c_check_rule (hr.mono (by decide)) rfl pass0 (pa_cons (pv 0) (pa_cons (pv 1) (pa_cons (pv 2) pa_nil)))))
      (pss_cons (ps_expr (pe_cal c_require (hr.mono (by decide)) rfl pass0 (pa_cons (pe_cal c_is_integer (hr.mono (by decide)) rfl pass0 (pa_cons (pv 3) (pa_cons pe_int (pa_cons (pe_op op_sub (pe_callB (k_len (K := K) rfl) rfl T.b_len (by decide +kernel) (pa_cons (pv 2) pa_nil)) pe_int) pa_nil)))) (pa_cons pe_str pa_nil))))
      (pss_cons (ps_expr (pe_cal c_require (hr.mono (by decide)) rfl pass0 (pa_cons (pe_cal c_is_integer (hr.mono (by decide)) rfl pass0 (pa_cons (pv 4) (pa_cons pe_int (pa_cons (pe_op op_sub (pe_callB (k_len (K := K) rfl) rfl T.b_len (by decide +kernel) (pa_cons (pv 2) pa_nil)) pe_int) pa_nil)))) (pa_cons pe_str pa_nil))))
      (pss_cons (ps_expr (pe_cal c_check_bucket (hr.mono (by decide)) rfl pass0 (pa_cons (pv 5) (pa_cons (pv 1) pa_nil))))
      (pss_one (ps_ret (pe_cal c_is_left (hr.mono (by decide)) rfl pass0 (pa_cons (pe_ix (k_ix (K := K) rfl) (pv 2) (pv 3) (fun _ _ => rfl)) (pa_cons (pe_ix (k_ix (K := K) rfl) (pv 2) (pv 4) (fun _ _ => rfl)) (pa_cons (pv 5) pa_nil)))))))))), run_pure (N := n_leaves) (fun ds k d hp => ?_) h⟩)
  obtain ⟨R, v, b, i, j, l, rfl, h, hi, hj, hl, rfl, rfl⟩ := hp
  have b0 := h.b0
  refine q_drop (d_call (k := .v) (d := .none) (a_cons (d_var rfl) (a_cons (d_var rfl) (a_cons (d_var rfl) a_nil))) ⟨R, v, b, rfl, h, rfl, rfl⟩) ?_
  have rg : ∀ n : Nat, n < R.length → isIntD (.int (n : Int)) 0 ((R.length : Nat) - 1) = true := fun n hn => by
    simp [isIntD]; omega
  refine q_drop (d_call (k := .v) (d := .none) (a_cons (d_call (k := .v) (d := .bool true) (a_cons (d_var rfl) (a_cons d_int (a_cons (d_sub (d_lenT (d_var rfl)) d_int) a_nil))) ⟨.int (i : Int), 0, _, rfl, rfl, by rw [List.length_map, rg i hi]⟩) (a_cons d_str a_nil)) ⟨_, rfl, rfl, rfl⟩) ?_
  refine q_drop (d_call (k := .v) (d := .none) (a_cons (d_call (k := .v) (d := .bool true) (a_cons (d_var rfl) (a_cons d_int (a_cons (d_sub (d_lenT (d_var rfl)) d_int) a_nil))) ⟨.int (j : Int), 0, _, rfl, rfl, by rw [List.length_map, rg j hj]⟩) (a_cons d_str a_nil)) ⟨_, rfl, rfl, rfl⟩) ?_
  refine q_drop (d_call (k := .v) (d := .none) (a_cons (d_var rfl) (a_cons (d_var rfl) a_nil)) ⟨l, b, rfl, by omega, hl, rfl, rfl⟩) ?_
  exact s_ret (d_call (k := .v) (a_cons (e_ixT (d_var rfl) (d_var rfl) (at_pr hi) (fl_pr _)) (a_cons (e_ixT (d_var rfl) (d_var rfl) (at_pr hj) (fl_pr _)) (a_cons (d_var rfl) a_nil))) ⟨gR R i, gR R j, v, b, l, rfl, h.ok _ (gR_mem hi), h.ok _ (gR_mem hj), hl, rfl, rfl⟩) (.inr ⟨rfl, rfl⟩) (.inl rfl)

theorem ok_lists_of_rule {P : Program} {w : World} {K : PySem.W.Frag} {mg : Str → Option Value} {base : Heap} {f : Addr} {fd : FuncData} (F : Fun K "lists_of_rule" "lists_of_rule" s_lists_of_rule f fd) (T : Txt mg) (c_needless_leave : Cal P w K mg base CX0 10 "needless_leave" p_needless_leave (sp_needless_leave K)) (c_short_list : Cal P w K mg base CX0 6 "short_list" p_short_list (sp_short_list K)) :
    FnOk P w K mg base CX0 11 f fd p_lists_of_rule (sp_lists_of_rule K) := by
  refine F.ok sc_lists_of_rule (fun vs H Q E h => spD_len h (by rintro ds k d ⟨R, v, b, rfl, _⟩; rfl)) (fun cdv A outer s H vs Q E hr h => ⟨_, (pss_cons (ps_if (pt_cmpR op_notN (pe_cal c_needless_leave (hr.mono (by decide)) rfl pass0 (pa_cons (pv 0) (pa_cons (pv 1) (pa_cons (pv 2) pa_nil)))) pe_non (nomark _)) (pss_one (ps_ret pe_non)) pss_nil)
      (pss_cons (ps_set (i := 3) sc_lists_of_rule.nd rfl (Or.inr rfl) (pe_lc rfl sc_lists_of_rule.nd (k_seq (K := K) rfl (pv 2)) (blkOk_by (own := [("_", 4), ("assignment", 5)]) (N := n_lists_of_rule) (sc := defScope s_lists_of_rule) (by decide +kernel)) (fun _ _ _ _ _ => by exact (k_tup (K := K) (n := 2) rfl rfl (pgs_cons (pg_name (i := 4) sc_lists_of_rule.nd rfl (Or.inl rfl)) (pgs_cons (pg_name (i := 5) sc_lists_of_rule.nd rfl (Or.inl rfl)) pgs_nil)))) (fun _ _ _ _ _ => by exact pts_nil) (fun _ _ _ _ _ => by exact (pv 5))))
      (pss_one (ps_ret (pe_callTy (k_tuple (K := K) rfl) rfl T.b_tuple (by decide +kernel) (pa_cons (pe_lc rfl sc_lists_of_rule.nd (pi_range2 rfl T.b_range (pa_cons (pe_op (k_add (K := K) rfl) (pe_const rfl T.k_CONTROL) pe_int) (pa_cons (pv 0) pa_nil))) (blkOk_by (own := [("variant", 6)]) (N := n_lists_of_rule) (sc := defScope s_lists_of_rule) (by decide +kernel)) (fun _ _ _ _ _ => by exact (pg_name (i := 6) sc_lists_of_rule.nd rfl (Or.inl rfl))) (fun _ _ _ _ _ => by exact pts_nil) (fun _ _ _ _ _ => by exact (pe_cal c_short_list (hr.mono (by decide)) rfl pass0 (pa_cons (pv 3) (pa_cons (pv 6) pa_nil))))) pa_nil)))))), run_pure (N := n_lists_of_rule) (fun ds k d hp => ?_) h⟩)
  obtain ⟨R, v, b, rfl, h, rfl, rfl⟩ := hp
  have v1 := h.v1
  have v5 := h.v5
  have b0 := h.b0
  have b20 := h.b20
  have rl := h.len
  by_cases z : leftF R b.toNat = .none
  · have el : lorD R v b = .tuple ((List.range (v - 1).toNat).map fun (i : Nat) => tupD (slL (R.map (·.2)) ((i : Int) + 1))) := by unfold lorD; rw [z]
    rw [el, show (v - 1).toNat = v.toNat - 1 by omega]
    refine q_no (EvT.to (t_test (d_notN (d_call (k := .v) (d := .none) (a_cons (d_var rfl) (a_cons (d_var rfl) (a_cons (d_var rfl) a_nil))) ⟨R, v, b, rfl, h, rfl, z.symm⟩))) rfl) ?_
    refine q_asgO (d := .list ((R.map (·.2)).map tupD)) (Ev.to (d_lcA (l := R) (en := rlI) (fun p => tupD p.2) (i_prs (d_var rfl) kv_ne) (by omega) fun p hp => ⟨_, _, g_tupD rfl (g_cons g_name (g_cons g_name g_nil)), fun j hj => hj, Ev.fo (d_var rfl) (flatT _)⟩) (by rw [List.map_map]; rfl)) ?_
    refine s_freeze (n := 3) rfl ?_
    have flt : flatAll ((List.range (v.toNat - 1)).map fun (i : Nat) => tupD (slL (R.map (·.2)) ((i : Int) + 1))) = true := flatAll_mem fun d hd => by
      obtain ⟨i, _, rfl⟩ := List.mem_map.mp hd
      exact flatT _
    refine s_ret (d_tuple (d_lcA (l := List.range (v.toNat - 1)) (en := fun (i : Nat) => Im.d (.int ((1 + i : Nat) : Int))) (fun (i : Nat) => tupD (slL (R.map (·.2)) ((i : Int) + 1))) (i_rngN2 (lo := 1) (n := v.toNat) (a_cons (Ev.to (e_add d_int d_int) rfl) (a_cons ((d_var rfl).to (by rw [show ((v.toNat : Nat) : Int) = v by omega])) a_nil)) (by omega) (by omega)) (by simp; omega) fun i hi => ⟨_, _, g_name, fun j hj => hj, Ev.fo (d_call (k := .v) (d := tupD (slL (R.map (·.2)) ((i : Int) + 1))) (a_cons (d_var rfl) (a_cons (d_var rfl) a_nil)) ⟨R.map (·.2), (i : Int) + 1, by rw [show ((1 + i : Nat) : Int) = (i : Int) + 1 by omega], fun ns hn => ?_, by rw [List.length_map]; exact rl, by omega, by have := List.mem_range.mp hi; omega, rfl, rfl⟩) (flatT _)⟩) flt) (.inr ⟨rfl, flt⟩) (.inl rfl)
    obtain ⟨p, hp, rfl⟩ := List.mem_map.mp hn
    have ok := h.ok p hp
    have pl := ok.len
    exact ⟨⟨by omega, fun n hn => by have := ok.rng n hn; omega⟩, by omega⟩
  · have el : lorD R v b = .none := by
      unfold lorD
      split
      · rename_i e; exact absurd e z
      · rfl
    rw [el]
    exact q_if (a := true) (EvT.to (t_test (d_notN (d_call (k := .v) (d := leftF R b.toNat) (a_cons (d_var rfl) (a_cons (d_var rfl) (a_cons (d_var rfl) a_nil))) ⟨R, v, b, rfl, h, rfl, rfl⟩))) (by cases q : leftF R b.toNat with | none => exact absurd q z | _ => rfl)) (fun _ => q_ret d_non (.inr ⟨rfl, rfl⟩) (.inl rfl)) fun w => by cases w

theorem ok_serves_rule {P : Program} {w : World} {K : PySem.W.Frag} {mg : Str → Option Value} {base : Heap} {f : Addr} {fd : FuncData} (F : Fun K "serves_rule" "serves_rule" s_serves_rule f fd) (T : Txt mg) (c_check_rule : Cal P w K mg base CX0 9 "check_rule" p_check_rule (sp_check_rule K)) (c_are_lists : Cal P w K mg base CX0 3 "are_lists" p_are_lists (sp_are_listsX K)) (c_buckets_of : Cal P w K mg base CX0 5 "buckets_of" p_buckets_of (sp_buckets_of K)) (c_fits : Cal P w K mg base CX0 1 "fits" p_fits (sp_fits K)) :
    FnOk P w K mg base CX0 10 f fd p_serves_rule (sp_serves_ruleX K) := by
  refine F.ok sc_serves_rule (fun vs H Q E h => spD_len h (by rintro ds k d ⟨R, v, b, x, rfl, _⟩; rfl)) (fun cdv A outer s H vs Q E hr h => ⟨_, (pss_cons (ps_expr (pe_cal c_check_rule (hr.mono (by decide)) rfl pass0 (pa_cons (pv 0) (pa_cons (pv 1) (pa_cons (pv 2) pa_nil)))))
      (pss_cons (ps_if (pt_not (pt_val (pe_cal c_are_lists (hr.mono (by decide)) rfl pass0 (pa_cons (pv 3) (pa_cons (pe_op op_sub (pv 0) pe_int) (pa_cons (pv 1) pa_nil)))))) (pss_one (ps_ret pe_bl)) pss_nil)
      (pss_cons (ps_for PassesOwn.never rfl (k_seq (K := K) rfl (pv 2)) (k_tup (K := K) (n := 2) rfl rfl (pgs_cons (pg_name (i := 4) sc_serves_rule.nd rfl (Or.inl rfl)) (pgs_cons (pg_name (i := 5) sc_serves_rule.nd rfl (Or.inr rfl)) pgs_nil))) (pss_cons (ps_setLc (i := 6) rfl sc_serves_rule.nd rfl rfl (sw_true rfl rfl rfl (by decide +kernel)) (pi_range2 rfl T.b_range (pa_cons (pe_op (k_add (K := K) rfl) (pe_const rfl T.k_CONTROL) pe_int) (pa_cons (pv 0) pa_nil))) (blkOk_by (own := [("variant", 7)]) (N := n_serves_rule) (sc := defScope s_serves_rule) (by decide +kernel)) (fun _ _ _ _ _ => by exact (pg_name (i := 7) sc_serves_rule.nd rfl (Or.inl rfl))) (fun _ _ _ _ _ => by exact pts_nil) (fun _ _ _ _ _ => by exact (pe_cal c_buckets_of (hr.mono (by decide)) rfl pass0 (pa_cons (pv 5) (pa_cons (pv 7) pa_nil)))))
      (pss_one (ps_if (pt_not (pt_val (pe_callB (k_all (K := K) rfl rfl) rfl T.b_all (by decide +kernel) (pa_cons (pe_lc rfl sc_serves_rule.nd (k_zipM (K := K) (t1 := false) (t2 := true) rfl rfl T.b_zip (pa_cons (pv 3) (pa_cons (pv 6) pa_nil))) (blkOk_by (own := [("row", 8), ("own", 9)]) (N := n_serves_rule) (sc := defScope s_serves_rule) (by decide +kernel)) (fun _ _ _ _ _ => by exact (k_tup (K := K) (n := 2) rfl rfl (pgs_cons (pg_name (i := 8) sc_serves_rule.nd rfl (Or.inl rfl)) (pgs_cons (pg_name (i := 9) sc_serves_rule.nd rfl (Or.inl rfl)) pgs_nil)))) (fun _ _ _ _ _ => by exact pts_nil) (fun _ _ _ _ _ => by exact (pe_cal c_fits (hr.mono (by decide)) rfl pass0 (pa_cons (pv 8) (pa_cons (pv 9) pa_nil))))) pa_nil)))) (pss_one (ps_ret pe_bl)) pss_nil))))
      (pss_one (ps_ret pe_bl))))), run_pure (N := n_serves_rule) (fun ds k d hp => ?_) h⟩)
  obtain ⟨R, v, b, x, rfl, h, hs, rfl, rfl⟩ := hp
  have v1 := h.v1
  have v5 := h.v5
  have b0 := h.b0
  have b20 := h.b20
  have rl := h.len
  obtain ⟨V, rfl⟩ : ∃ V : Nat, v = (V : Int) := ⟨v.toNat, by omega⟩
  refine q_drop (d_call (k := .v) (d := .none) (a_cons (d_var rfl) (a_cons (d_var rfl) (a_cons (d_var rfl) a_nil))) ⟨R, V, b, rfl, h, rfl, rfl⟩) ?_
  refine q_if (a := !alB x ((V : Int) - 1) b) (t_not (t_B (d_call (k := .v) (a_cons (d_var rfl) (a_cons (d_sub (d_var rfl) d_int) (a_cons (d_var rfl) a_nil))) ⟨x, (V : Int) - 1, b, rfl, hs, rfl, rfl⟩))) (fun z => ?_) fun z => q_next ?_
  · refine q_ret (d_bl.to ?_) (.inr ⟨rfl, rfl⟩) (.inl rfl)
    rw [Bool.not_eq_true'] at z
    unfold srvB
    rw [z]; rfl
  rw [Bool.not_eq_false'] at z
  obtain ⟨Ls, rfl, hl, hr, hd⟩ := alB_iff z
  have e0 : srvB R V b (.tuple (Ls.map tupD)) = R.all (srvP Ls V) := by
    unfold srvB
    rw [z, lsI_tup, Int.toNat_natCast]
    rfl
  rw [e0]
  have ll : Ls.length = V - 1 := by omega
  have sm : ∀ r ∈ Ls, r.length < 64 := fun r hr' => by
    have := (hs _ rfl).2 (tupD r) (List.mem_map_of_mem hr') _ rfl
    simpa using this
  refine q_for (i_prs (d_var rfl) kv_ne)
    (fun n Γ1 => ∃ t4 t5 t6 t7 t8 t9, Γ1 = [some (.v (.int (V : Int))), some (.v (.int b)), some (.v (.tuple (R.map rlD))), some (.v (.tuple (Ls.map tupD))), t4, t5, t6, t7, t8, t9] ∧ (R.take n).all (srvP Ls V) = true) ⟨_, _, _, _, _, _, rfl, rfl⟩ (fun n a Γ1 hn' hI => ?_) (fun Γ1 hI => ?_)
  · obtain ⟨t4, t5, t6, t7, t8, t9, rfl, hq⟩ := hI
    have hn : n < R.length := by have := (List.getElem?_eq_some_iff.mp hn').1; simpa using this
    obtain ⟨p, hp⟩ : ∃ p, p = R[n] := ⟨_, rfl⟩
    have ea : a = .d (.tuple [tupD p.1, tupD p.2]) := by
      rw [List.getElem?_map, List.getElem?_eq_getElem hn, ← hp] at hn'
      exact (Option.some.inj hn').symm
    subst ea
    have hm : p ∈ R := hp ▸ List.getElem_mem hn
    have op := h.ok p hm
    have pl := op.len
    have as : Asg p.2 5 := ⟨by omega, fun x hx => by have := op.rng x hx; omega⟩
    have tk : R.take (n + 1) = R.take n ++ [p] := by rw [List.take_add_one, List.getElem?_eq_getElem hn, hp]; rfl
    refine ⟨_, _, g_tupD rfl (g_cons g_name (g_cons g_name g_nil)), ?_⟩
    refine q_asgO (d := .list ((ownL V p).map lstD)) ((d_lcA (l := List.range (V - 1)) (en := fun (i : Nat) => Im.d (.int ((1 + i : Nat) : Int))) (fun (i : Nat) => lstD (placesI p.2 ((i : Int) + 1))) (i_rngN2 (lo := 1) (n := V) (a_cons (Ev.to (e_add d_int d_int) rfl) (a_cons (d_var rfl) a_nil)) (by omega) (by omega)) (by simp; omega) fun i hi => ⟨_, _, g_name, fun j hj => hj, d_call (k := .o) (a_cons (d_var rfl) (a_cons (d_var rfl) a_nil)) ⟨p.2, (i : Int) + 1, by rw [show ((1 + i : Nat) : Int) = (i : Int) + 1 by omega], as, by omega, by have := List.mem_range.mp hi; omega, rfl, rfl⟩⟩).to (by unfold ownL; rw [List.map_map]; rfl)) ?_
    refine s_freeze (n := 6) rfl ?_
    refine s_if (a := !srvP Ls V p) (EvT.to (t_not (t_B (d_all (d_lcB (l := Ls.zip (ownL V p)) (en := zipQ) (fun q => fitB q.1 q.2) (i_zipTLQ (d_var rfl) (d_var rfl) kv_ne (by simp [ownL, ll])) (by simp [ownL]; omega) fun q hq => ⟨_, _, g_tup rfl (g_cons g_name (g_cons g_name g_nil)), fun j hj => hj, .v, d_call (k := .v) (a_cons (d_var rfl) (a_cons (d_var rfl) a_nil)) ⟨q.1, q.2, rfl, sm _ (List.of_mem_zip hq).1, rfl, rfl⟩⟩)))) (by rw [List.all_map]; show (!((Ls.zip (ownL V p)).all fun q => fitB q.1 q.2)) = _; rw [srv_zip ll])) (fun w => ?_) fun w => s_next (.inl ⟨_, .inl rfl, _, _, _, _, _, _, rfl, ?_⟩)
    · refine s_ret (d_bl.to ?_) (.inr ⟨rfl, rfl⟩) (.inr (.inr ⟨_, _, rfl, .inl rfl⟩))
      rw [Bool.not_eq_true'] at w
      congr 1
      symm
      rw [List.all_eq_false]
      exact ⟨p, hm, by rw [w]; decide⟩
    · rw [Bool.not_eq_false'] at w
      rw [tk, List.all_append, hq, List.all_cons, w]
      rfl
  · obtain ⟨t4, t5, t6, t7, t8, t9, rfl, hq⟩ := hI
    rw [List.length_map, List.take_length] at hq
    rw [hq]
    exact s_ret d_bl (.inr ⟨rfl, rfl⟩) (.inl rfl)

theorem ok_most_waste {P : Program} {w : World} {K : PySem.W.Frag} {mg : Str → Option Value} {base : Heap} {f : Addr} {fd : FuncData} (F : Fun K "most_waste" "most_waste" s_most_waste f fd) (T : Txt mg) (c_check_rule : Cal P w K mg base CX0 9 "check_rule" p_check_rule (sp_check_rule K)) (c_churn : Cal P w K mg base CX0 7 "churn" p_churn (sp_churn K)) (c_transfer : Cal P w K mg base CX0 5 "transfer" p_transfer (sp_transfer K)) :
    FnOk P w K mg base CX0 10 f fd p_most_waste (sp_most_waste K) := by
  refine F.ok sc_most_waste (fun vs H Q E h => spD_len h (by rintro ds k d ⟨R, v, b, rfl, _⟩; rfl)) (fun cdv A outer s H vs Q E hr h => ⟨_, (pss_cons (ps_expr (pe_cal c_check_rule (hr.mono (by decide)) rfl pass0 (pa_cons (pv 0) (pa_cons (pv 1) (pa_cons (pv 2) pa_nil)))))
      (pss_cons (ps_set (i := 3) sc_most_waste.nd rfl (Or.inl rfl) pe_non)
      (pss_cons (ps_set (i := 4) sc_most_waste.nd rfl (Or.inl rfl) (pe_un un_neg pe_int))
      (pss_cons (ps_for PassesOwn.never rfl (pi_comb rfl rfl T.i_combinations (pa_cons (pe_callTy cr_rng1 rfl T.b_range (by decide +kernel) (pa_cons (pe_callB (k_len (K := K) rfl) rfl T.b_len (by decide +kernel) (pa_cons (pv 2) pa_nil)) pa_nil)) (pa_cons pe_int pa_nil))) (k_tup (K := K) (n := 2) rfl rfl (pgs_cons (pg_name (i := 5) sc_most_waste.nd rfl (Or.inl rfl)) (pgs_cons (pg_name (i := 6) sc_most_waste.nd rfl (Or.inl rfl)) pgs_nil))) (pss_cons (ps_set (i := 7) sc_most_waste.nd rfl (Or.inl rfl) (pe_cal c_churn (hr.mono (by decide)) rfl pass0 (pa_cons (pe_ix (k_ix (K := K) rfl) (pe_ix (k_ix (K := K) rfl) (pv 2) (pv 5) (fun _ _ => rfl)) pe_int (fun _ _ => rfl)) (pa_cons (pe_ix (k_ix (K := K) rfl) (pe_ix (k_ix (K := K) rfl) (pv 2) (pv 6) (fun _ _ => rfl)) pe_int (fun _ _ => rfl)) pa_nil))))
      (pss_cons (ps_set (i := 8) sc_most_waste.nd rfl (Or.inl rfl) (pe_cal c_transfer (hr.mono (by decide)) rfl pass0 (pa_cons (pe_ix (k_ix (K := K) rfl) (pe_ix (k_ix (K := K) rfl) (pv 2) (pv 5) (fun _ _ => rfl)) pe_int (fun _ _ => rfl)) (pa_cons (pe_ix (k_ix (K := K) rfl) (pe_ix (k_ix (K := K) rfl) (pv 2) (pv 6) (fun _ _ => rfl)) pe_int (fun _ _ => rfl)) pa_nil))))
      (pss_one (ps_if (pt_cmpR op_gt (pe_op op_sub (pv 7) (pv 8)) (pv 4) (nomark _)) (pss_cons (ps_set (i := 4) sc_most_waste.nd rfl (Or.inl rfl) (pe_op op_sub (pv 7) (pv 8)))
      (pss_one (ps_set (i := 3) sc_most_waste.nd rfl (Or.inl rfl) (pe_tupN (pa_cons (pv 5) (pa_cons (pv 6) (pa_cons (pv 7) (pa_cons (pv 8) pa_nil)))))))) pss_nil)))))
      (pss_one (ps_ret (pv 3))))))), run_pure (N := n_most_waste) (fun ds k d hp => ?_) h⟩)
  obtain ⟨R, v, b, rfl, h, rfl, rfl⟩ := hp
  have hl := h.len
  have v1 := h.v1
  have v5 := h.v5
  have b20 := h.b20
  refine q_drop (d_call (k := .v) (d := .none) (a_cons (d_var rfl) (a_cons (d_var rfl) (a_cons (d_var rfl) a_nil))) ⟨R, v, b, rfl, h, rfl, rfl⟩) ?_
  refine q_asg (d := opD none) d_non ?_
  refine q_asg (d := .int (grtW none)) (e_neg d_int) ?_
  refine q_for (items := (pairL R.length).map fun ks => .d (plcD ks)) (cmb_pairs R.length (by omega) ▸ i_comb (n := R.length) (k := 2) ((d_lenT (d_var rfl)).to (by rw [List.length_map])) (by omega) (by decide) (cmb_ok2 (by omega)))
    (fun m Γ1 => ∃ t5 t6 t7 t8, Γ1 = [some (.v (.int v)), some (.v (.int b)), some (.v (.tuple (R.map rlD))), some (.v (opD (bstW (rowsW R (((pairL R.length).take m).map castL))))), some (.v (.int (grtW (bstW (rowsW R (((pairL R.length).take m).map castL)))))), t5, t6, t7, t8]) ⟨_, _, _, _, rfl⟩ (fun m a Γ1 hm' hI => ?_) (fun Γ1 hI => ?_)
  · obtain ⟨t5, t6, t7, t8, rfl⟩ := hI
    have hm : m < (pairL R.length).length := by have := (List.getElem?_eq_some_iff.mp hm').1; simpa using this
    obtain ⟨i, j, ep, hij, hj⟩ := mem_pairL.mp (List.getElem_mem hm)
    have ea : a = .d (.tuple [.int (i : Nat), .int (j : Nat)]) := by
      rw [List.getElem?_map, List.getElem?_eq_getElem hm, ep] at hm'
      exact (Option.some.inj hm').symm
    subst ea
    have tk : rowsW R (((pairL R.length).take (m + 1)).map castL) = rowsW R (((pairL R.length).take m).map castL) ++ [rowW R [(i : Int), (j : Int)]] := by
      rw [List.take_add_one, List.getElem?_eq_getElem hm, ep]
      unfold rowsW
      simp [castL]
    have hi : i < R.length := by omega
    have pi := h.ok _ (gR_mem hi)
    have pj := h.ok _ (gR_mem hj)
    have w0 := row_ws h hi hj
    have st := bst_step (o := bstW (rowsW R (((pairL R.length).take m).map castL))) w0
    have wsr : wsI (rowW R [(i : Int), (j : Int)]) = chP (gR R i) (gR R j) - tsP (gR R i) (gR R j) := rfl
    have a5 : ∀ p : Pr, OkP p v b → Asg p.2 5 := fun p hp => ⟨(hp.asg b20).len, fun n q => by have := (hp.asg b20).rng n q; omega⟩
    refine ⟨_, _, g_tupD rfl (g_cons g_name (g_cons g_name g_nil)), ?_⟩
    refine q_asg (d := .int (chP (gR R i) (gR R j))) (d_call (k := .v) (a_cons (e_ixT (e_ixT (d_var rfl) (d_var rfl) (at_pr hi) (fl_pr _)) d_int rfl (flatT (gR R i).2)) (a_cons (e_ixT (e_ixT (d_var rfl) (d_var rfl) (at_pr hj) (fl_pr _)) d_int rfl (flatT (gR R j).2)) a_nil)) ⟨(gR R i).2, (gR R j).2, rfl, a5 _ pi, a5 _ pj, by have := pi.len; have := pj.len; omega, rfl, rfl⟩) ?_
    refine q_asg (d := .int (tsP (gR R i) (gR R j))) (d_call (k := .v) (a_cons (e_ixT (e_ixT (d_var rfl) (d_var rfl) (at_pr hi) (fl_pr _)) d_int rfl (flatT (gR R i).1)) (a_cons (e_ixT (e_ixT (d_var rfl) (d_var rfl) (at_pr hj) (fl_pr _)) d_int rfl (flatT (gR R j).1)) a_nil)) ⟨(gR R i).1, (gR R j).1, v, b, rfl, pi.alc, pj.alc, v1, v5, b20, rfl, rfl⟩) ?_
    rw [wsr] at st
    refine s_if (t_test (d_gt (d_sub (d_var rfl) (d_var rfl)) (d_var rfl))) (fun w => ?_) fun w => s_next (.inl ⟨_, .inl rfl, some (.v (.int (i : Nat))), some (.v (.int (j : Nat))), some (.v (.int (chP (gR R i) (gR R j)))), some (.v (.int (tsP (gR R i) (gR R j)))), ?_⟩)
    · refine q_asg (d := .int (chP (gR R i) (gR R j) - tsP (gR R i) (gR R j))) (d_sub (d_var rfl) (d_var rfl)) ?_
      refine s_asg (d := tupD (rowW R [(i : Int), (j : Int)])) (d_tup (a_consV (d_var rfl) (a_consV (d_var rfl) (a_consV (d_var rfl) (a_consV (d_var rfl) a_nil)))) (by simp [rowW])) (.inl ⟨_, .inl rfl, some (.v (.int (i : Nat))), some (.v (.int (j : Nat))), some (.v (.int (chP (gR R i) (gR R j)))), some (.v (.int (tsP (gR R i) (gR R j)))), ?_⟩)
      rw [tk, bst_snoc, st, if_pos (of_decide_eq_true w)]
      rfl
    · rw [tk, bst_snoc, st, if_neg (of_decide_eq_false w)]
      rfl
  · obtain ⟨t5, t6, t7, t8, rfl⟩ := hI
    rw [List.length_map, List.take_length, prL_pairs]
    exact s_ret (d_var rfl) (.inr ⟨rfl, flat_op⟩) (.inl rfl)

theorem ok_variant_sets {P : Program} {w : World} {K : PySem.W.Frag} {mg : Str → Option Value} {base : Heap} {f : Addr} {fd : FuncData} (F : Fun K "variant_sets" "variant_sets" s_variant_sets f fd) (T : Txt mg) :
    FnOk P w K mg base CX0 1 f fd p_variant_sets (sp_variant_sets K) := by
  refine F.ok sc_variant_sets (fun vs H Q E h => spD_len h (by rintro ds k d ⟨v, rfl, _⟩; rfl)) (fun cdv A outer s H vs Q E hr h => ⟨_, (pss_cons (ps_set (i := 1) sc_variant_sets.nd rfl (Or.inl rfl) (pe_lst pa_nil))
      (pss_cons (ps_for PassesOwn.never rfl (pi_range1 rfl T.b_range (pa_cons (pe_op (k_add (K := K) rfl) (pv 0) pe_int) pa_nil)) (pg_name (i := 2) sc_variant_sets.nd rfl (Or.inl rfl)) (pss_one (ps_for PassesOwn.never rfl (pi_comb rfl rfl T.i_combinations (pa_cons (pe_callTy cr_rng1 rfl T.b_range (by decide +kernel) (pa_cons (pv 0) pa_nil)) (pa_cons (pv 2) pa_nil))) (pg_name (i := 3) sc_variant_sets.nd rfl (Or.inl rfl)) (pss_one (ps_expr (k_bm (K := K) rfl PySem.F.plainAttrs_list PySem.F.slot_list_append PySem.F.type_list_append mt_append (pv 1) (pa_cons (pv 3) pa_nil)))))))
      (pss_one (ps_ret (pv 1))))), run_pure (N := n_variant_sets) (fun ds k d hp => ?_) h⟩)
  obtain ⟨v, rfl, v5, rfl, rfl⟩ := hp
  have tot := vs_len v (by omega)
  have pre : ∀ n ≤ v + 1, ((List.range n).flatMap fun k => cmbs v k).length ≤ 32 := fun n hn => by
    have e : vsN v = ((List.range n).flatMap fun k => cmbs v k) ++ (((List.range (v + 1 - n)).map (n + ·)).flatMap fun k => cmbs v k) := by
      unfold vsN
      rw [← List.flatMap_append, ← List.range_add, show n + (v + 1 - n) = v + 1 by omega]
    rw [e, List.length_append] at tot
    omega
  refine q_asgO (d := .list (([] : List (List Nat)).map setD)) (d_lst (kv := false) (ds := []) a_nil rfl (by decide)) ?_
  refine q_for (i_rngN (n := v + 1) (a_cons ((e_add (d_var rfl) d_int).to (by rw [Int.natCast_add]; rfl)) a_nil) (by omega))
    (fun n Γ1 => ∃ t2 t3, Γ1 = [some (.v (.int (v : Int))), some (.o (.list (((List.range n).flatMap fun k => cmbs v k).map setD))), t2, t3]) ⟨_, _, rfl⟩ (fun n a Γ1 hn' hI => ?_) (fun Γ1 hI => ?_)
  · obtain ⟨t2, t3, rfl⟩ := hI
    obtain ⟨hn, rfl⟩ := rngN_at hn'
    have p1 := pre (n + 1) (by omega)
    rw [List.range_succ, List.flatMap_append, List.flatMap_singleton, List.length_append] at p1
    refine ⟨_, _, g_name, s_for (items := (cmbs v n).map fun ks => .d (plcD ks)) (i_combV (n := v) (k := n) (d_var rfl) (d_var rfl) (by omega) (by omega) (cmb_ok (by omega) (by omega)))
      (fun t Γ1 => ∃ t3, Γ1 = [some (.v (.int (v : Int))), some (.o (.list (((List.range n).flatMap (fun k => cmbs v k) ++ (cmbs v n).take t).map setD))), some (.v (.int (n : Int))), t3]) ⟨t3, by simp⟩ (fun t a Γ1 ht' hI => ?_) (fun Γ1 hI => ?_)⟩
    · obtain ⟨t3, rfl⟩ := hI
      have ht : t < (cmbs v n).length := by have := (List.getElem?_eq_some_iff.mp ht').1; simpa using this
      have ea : a = .d (setD (cmbs v n)[t]) := by
        rw [List.getElem?_map, List.getElem?_eq_getElem ht] at ht'
        exact (Option.some.inj ht').symm
      subst ea
      refine ⟨_, _, g_name, s_app rfl (d_var rfl) (flatT _) (by simp only [List.length_map, List.length_append, List.length_take]; omega) (.inl ⟨_, .inl rfl, some (.v (setD (cmbs v n)[t])), ?_⟩)⟩
      rw [List.take_add_one, List.getElem?_eq_getElem ht, ← List.append_assoc, List.map_append (l₂ := Option.toList _)]
      rfl
    · obtain ⟨t3, rfl⟩ := hI
      refine .inl ⟨_, .inl rfl, some (.v (.int (n : Int))), t3, ?_⟩
      rw [List.length_map, List.take_length, List.range_succ, List.flatMap_append, List.flatMap_singleton]
  · obtain ⟨t2, t3, rfl⟩ := hI
    rw [List.length_map, List.length_range]
    exact s_retO rfl (.inl rfl)

theorem ok_is_inside {P : Program} {w : World} {K : PySem.W.Frag} {mg : Str → Option Value} {base : Heap} {f : Addr} {fd : FuncData} (F : Fun K "is_inside" "is_inside" s_is_inside f fd) (T : Txt mg) :
    FnOk P w K mg base CX0 1 f fd p_is_inside (sp_is_inside K) := by
  refine F.ok sc_is_inside (fun vs H Q E h => spD_len h (by rintro ds k d ⟨own, s, rfl, _⟩; rfl)) (fun cdv A outer s H vs Q E hr h => ⟨_, (pss_one (ps_ret (pe_callB (k_all (K := K) rfl rfl) rfl T.b_all (by decide +kernel) (pa_cons (pe_lc rfl sc_is_inside.nd (k_seq (K := K) rfl (pv 0)) (blkOk_by (own := [("variant", 2)]) (N := n_is_inside) (sc := defScope s_is_inside) (by decide +kernel)) (fun _ _ _ _ _ => by exact (pg_name (i := 2) sc_is_inside.nd rfl (Or.inl rfl))) (fun _ _ _ _ _ => by exact pts_nil) (fun _ _ _ _ _ => by exact (pe_cmpR (k_in (K := K) rfl) (pv 2) (pv 1) (by with_unfolding_all rfl)))) pa_nil)))), run_pure (N := n_is_inside) (fun ds k d hp => ?_) h⟩)
  obtain ⟨own, s, rfl, ol, o0, rfl, rfl⟩ := hp
  refine s_ret (Ev.to (d_all (d_lcB (l := own) (en := imI) (fun y => decide (y ∈ castL s)) (i_seqTI (d_var rfl) kv_ne) (by omega) fun y hy => ⟨_, _, g_name, fun j hj => hj, .v, d_inT (neg := false) (d_var rfl) (d_var rfl)⟩)) ?_) (.inr ⟨rfl, rfl⟩) (.inl rfl)
  rw [List.all_map]
  show PyData.bool (own.all fun y => decide (y ∈ castL s)) = .bool (own.all fun y => decide (y.toNat ∈ s))
  congr 1
  rw [Bool.eq_iff_iff, List.all_eq_true, List.all_eq_true]
  have key : ∀ y ∈ own, (y ∈ castL s ↔ y.toNat ∈ s) := fun y hy => by
    have := o0 y hy
    constructor
    · intro h
      obtain ⟨x, hx, rfl⟩ := List.mem_map.mp h
      exact hx
    · intro h
      exact List.mem_map.mpr ⟨y.toNat, h, by omega⟩
  exact ⟨fun h y hy => decide_eq_true ((key y hy).mp (of_decide_eq_true (h y hy))), fun h y hy => decide_eq_true ((key y hy).mpr (of_decide_eq_true (h y hy)))⟩

theorem ok_room {P : Program} {w : World} {K : PySem.W.Frag} {mg : Str → Option Value} {base : Heap} {f : Addr} {fd : FuncData} (F : Fun K "room" "room" s_room f fd) (T : Txt mg) :
    FnOk P w K mg base CX0 1 f fd p_room (sp_room K) := by
  refine F.ok sc_room (fun vs H Q E h => spD_len h (by rintro ds k d ⟨as, s, rfl, _⟩; rfl)) (fun cdv A outer s H vs Q E hr h => ⟨_, (pss_one (ps_ret (pe_callB (k_sum (K := K) rfl rfl) rfl T.b_sum (by decide +kernel) (pa_cons (pe_lc rfl sc_room.nd (k_seq (K := K) rfl (pv 1)) (blkOk_by (own := [("variant", 2)]) (N := n_room) (sc := defScope s_room) (by decide +kernel)) (fun _ _ _ _ _ => by exact (pg_name (i := 2) sc_room.nd rfl (Or.inl rfl))) (fun _ _ _ _ _ => by exact pts_nil) (fun _ _ _ _ _ => by exact (pe_ix (k_ix (K := K) rfl) (pv 0) (pv 2) (fun _ _ => rfl)))) pa_nil)))), run_pure (N := n_room) (fun ds k d hp => ?_) h⟩)
  obtain ⟨as, s, rfl, hs, sl, rfl, rfl⟩ := hp
  exact s_ret (Ev.to (e_sumL (d_lcI (l := s) (en := fun (i : Nat) => Im.d (.int (i : Int))) (fun x => as.getD x 0) (Eq.mp (by unfold castL; rw [List.map_map]; rfl) (i_seqTI (ns := castL s) (d_var rfl) kv_ne)) (by omega) fun x hx => ⟨_, _, g_name, fun j hj => hj, .v, e_ixT (d_var rfl) (d_var rfl) (at_ints (hs x hx)) rfl⟩)) rfl) (.inr ⟨rfl, rfl⟩) (.inl rfl)

theorem ok_confined {P : Program} {w : World} {K : PySem.W.Frag} {mg : Str → Option Value} {base : Heap} {f : Addr} {fd : FuncData} (F : Fun K "confined" "confined" s_confined f fd) (T : Txt mg) (c_is_inside : Cal P w K mg base CX0 1 "is_inside" p_is_inside (sp_is_inside K)) :
    FnOk P w K mg base CX0 2 f fd p_confined (sp_confined K) := by
  refine F.ok sc_confined (fun vs H Q E h => spD_len h (by rintro ds k d ⟨C, s, n, cd, rfl, _⟩; rfl)) (fun cdv A outer s H vs Q E hr h => ⟨_, (pss_one (ps_ret (pe_callTy (k_tuple (K := K) rfl) rfl T.b_tuple (by decide +kernel) (pa_cons (pe_lc rfl sc_confined.nd (k_enum (K := K) rfl rfl T.b_enumerate (pa_cons (pv 0) pa_nil)) (blkOk_by (own := [("bucket", 2), ("own", 3)]) (N := n_confined) (sc := defScope s_confined) (by decide +kernel)) (fun _ _ _ _ _ => by exact (k_tup (K := K) (n := 2) rfl rfl (pgs_cons (pg_name (i := 2) sc_confined.nd rfl (Or.inl rfl)) (pgs_cons (pg_name (i := 3) sc_confined.nd rfl (Or.inl rfl)) pgs_nil)))) (fun _ _ _ _ _ => by exact (pts_one (pt_val (pe_cal c_is_inside (hr.mono (by decide)) rfl pass0 (pa_cons (pv 3) (pa_cons (pv 1) pa_nil)))))) (fun _ _ _ _ _ => by exact (pv 2))) pa_nil)))), run_pure (N := n_confined) (fun ds k d hp => ?_) h⟩)
  obtain ⟨C, s, n, cd, rfl, hm, hC, rfl, rfl⟩ := hp
  have cl := hC.len
  refine s_ret (d_tuple (Ev.to (d_lc (l := List.range C.length) (en := fun i => Im.t [.d (.int (i : Nat)), .d (tupD (C.getD i []))]) (fun i => insP (inS s) (C.getD i [])) (fun (i : Nat) => .int (i : Int)) (i_mnsE (d_var rfl) hm) (by simp; omega) fun i hi => ⟨_, _, g_tup rfl (g_cons g_name (g_cons g_name g_nil)), fun j hj => hj, t_B (k := .v) (d_call (k := .v) (a_cons (d_var rfl) (a_cons (d_var rfl) a_nil)) ⟨C.getD i [], s, rfl, ?_, ?_, rfl, rfl⟩), fun _ => (d_var rfl).fo rfl⟩) (by unfold cnfL; rw [List.map_map]; rfl)) (flatAll_ints _)) (.inr ⟨rfl, flatT _⟩) (.inl rfl)
  · have := hC.own _ (gL_mem (List.mem_range.mp hi))
    omega
  · exact fun y hy => (hC.rng _ (gL_mem (List.mem_range.mp hi)) y hy).1

theorem ok_first_shortage {P : Program} {w : World} {K : PySem.W.Frag} {mg : Str → Option Value} {base : Heap} {f : Addr} {fd : FuncData} (F : Fun K "first_shortage" "first_shortage" s_first_shortage f fd) (T : Txt mg) (c_variant_sets : Cal P w K mg base CX0 1 "variant_sets" p_variant_sets (sp_variant_sets K)) (c_confined : Cal P w K mg base CX0 2 "confined" p_confined (sp_confined K)) (c_room : Cal P w K mg base CX0 1 "room" p_room (sp_room K)) :
    FnOk P w K mg base CX0 3 f fd p_first_shortage (sp_first_shortage K) := by
  refine F.ok sc_first_shortage (fun vs H Q E h => spD_len h (by rintro ds k d ⟨as, C, cd, rfl, _⟩; rfl)) (fun cdv A outer s H vs Q E hr h => ⟨_, (pss_cons (ps_for PassesOwn.never rfl (k_seq (K := K) rfl (pe_cal c_variant_sets (hr.mono (by decide)) rfl pass0 (pa_cons (pe_callB (k_len (K := K) rfl) rfl T.b_len (by decide +kernel) (pa_cons (pv 0) pa_nil)) pa_nil))) (pg_name (i := 2) sc_first_shortage.nd rfl (Or.inl rfl)) (pss_cons (ps_set (i := 3) sc_first_shortage.nd rfl (Or.inl rfl) (pe_cal c_confined (hr.mono (by decide)) rfl pass0 (pa_cons (pv 1) (pa_cons (pv 2) pa_nil))))
      (pss_one (ps_if (pt_cmpR op_gt (pe_callB (k_len (K := K) rfl) rfl T.b_len (by decide +kernel) (pa_cons (pv 3) pa_nil)) (pe_cal c_room (hr.mono (by decide)) rfl pass0 (pa_cons (pv 0) (pa_cons (pv 2) pa_nil))) (nomark _)) (pss_one (ps_ret (pe_tupN (pa_cons (pv 2) (pa_cons (pv 3) pa_nil))))) pss_nil))))
      (pss_one (ps_ret pe_non))), run_pure (N := n_first_shortage) (fun ds k d hp => ?_) h⟩)
  obtain ⟨as, C, cd, rfl, hm, hC, al, rfl, rfl⟩ := hp
  have fl := flat_sh (C := C) (o := shS as C)
  refine q_for (items := (vsN as.length).map fun s => Im.d (setD s)) (i_sets (L := vsN as.length) (d_call (k := .o) (a_cons ((d_lenT (d_var rfl)).to (by rw [List.length_map])) a_nil) ⟨as.length, rfl, al, rfl, rfl⟩) ko_ne)
    (fun n Γ1 => ∃ t2 t3, Γ1 = [some (.v (tupD as)), some (.v cd), t2, t3] ∧ ((vsN as.length).take n).find? (fun s => decide (roomI as s < cfP C (inS s))) = none) ⟨_, _, rfl, rfl⟩ (fun n a Γ1 hn' hI => ?_) (fun Γ1 hI => ?_)
  · obtain ⟨t2, t3, rfl, hq⟩ := hI
    have hn : n < (vsN as.length).length := by have := (List.getElem?_eq_some_iff.mp hn').1; simpa using this
    obtain ⟨s, hs⟩ : ∃ s, s = (vsN as.length)[n] := ⟨_, rfl⟩
    have ea : a = .d (setD s) := by
      rw [List.getElem?_map, List.getElem?_eq_getElem hn] at hn'
      rw [hs]
      exact (Option.some.inj hn').symm
    subst ea
    have mem : s ∈ vsN as.length := hs ▸ List.getElem_mem hn
    have sub := vs_sub mem
    have sl := sub.length_le
    rw [List.length_range] at sl
    have tk : (vsN as.length).take (n + 1) = (vsN as.length).take n ++ [s] := by rw [List.take_add_one, List.getElem?_eq_getElem hn, hs]; rfl
    refine ⟨_, _, g_name, q_asg (d := tupD (cnfL C s)) (d_call (k := .v) (a_cons (d_var rfl) (a_cons (d_var rfl) a_nil)) ⟨C, s, as.length, cd, rfl, hm, hC, rfl, rfl⟩) ?_⟩
    refine s_if (a := decide (roomI as s < cfP C (inS s))) (EvT.to (t_test (d_gt (d_lenT (d_var rfl)) (d_call (k := .v) (d := .int (roomI as s)) (a_cons (d_var rfl) (a_cons (d_var rfl) a_nil)) ⟨as, s, rfl, fun x hx => List.mem_range.mp (sub.subset hx), by omega, rfl, rfl⟩))) (by rw [List.length_map, cnf_len])) (fun w => ?_) fun w => s_next (.inl ⟨_, .inl rfl, _, _, rfl, ?_⟩)
    · refine s_ret (Ev.to (d_tup (a_consV (d_var rfl) (a_consV (d_var rfl) a_nil)) (by simp)) (y := shD C (shS as C)) ?_) (.inr ⟨rfl, fl⟩) (.inr (.inr ⟨_, _, rfl, .inl rfl⟩))
      have e : shS as C = some s := by
        unfold shS
        rw [← List.take_append_drop (n + 1) (vsN as.length), List.find?_append, tk, List.find?_append, hq]
        simp [of_decide_eq_true w]
      rw [e]
      rfl
    · rw [tk, List.find?_append, hq]
      simp only [List.find?_cons, w, List.find?_nil]
      rfl
  · obtain ⟨t2, t3, rfl, hq⟩ := hI
    rw [List.length_map, List.take_length] at hq
    refine s_ret (d_non.to (y := shD C (shS as C)) ?_) (.inr ⟨rfl, fl⟩) (.inl rfl)
    have e : shS as C = none := hq
    rw [e]
    rfl

theorem ok_are_ascending {P : Program} {w : World} {K : PySem.W.Frag} {mg : Str → Option Value} {base : Heap} {f : Addr} {fd : FuncData} (F : Fun K "are_ascending" "are_ascending" s_are_ascending f fd) (T : Txt mg) (c_are_integers : Cal P w K mg base CX0 2 "are_integers" p_are_integers (sp_are_integers K)) :
    FnOk P w K mg base CX0 3 f fd p_are_ascending (sp_are_ascendingX K) := by
  refine F.ok sc_are_ascending (fun vs H Q E h => spD_len h (by rintro ds k d ⟨x, m, rfl, _⟩; rfl)) (fun cdv A outer s H vs Q E hr h => ⟨_, (pss_one (ps_ret (pe_and (pe_cal c_are_integers (hr.mono (by decide)) rfl pass0 (pa_cons (pv 0) (pa_cons pe_int (pa_cons (pe_op op_sub (pv 1) pe_int) pa_nil)))) (pe_one (pe_cmpR (k_eq (K := K) rfl (rUnits hr)) (pe_callTy (k_list (K := K) rfl) rfl T.b_list (by decide +kernel) (pa_cons (pv 0) pa_nil)) (pe_callB (cr_sortedSet rfl) rfl T.b_sorted (by decide +kernel) (pa_cons (pe_callTy (k_setTI (K := K) rfl rfl) rfl T.b_set (by decide +kernel) (pa_cons (pv 0) pa_nil)) pa_nil)) (nomark _)))))), run_pure (N := n_are_ascending) (fun ds k d hp => ?_) h⟩)
  obtain ⟨x, m, rfl, hs, rfl, rfl⟩ := hp
  refine s_ret ((d_andV (a := areInts x 0 (m - 1)) (b := decide ((intsD x).Pairwise (· < ·))) (d_call (k := .v) (a_cons (d_var rfl) (a_cons d_int (a_cons (d_sub (d_var rfl) d_int) a_nil))) ⟨x, 0, m - 1, rfl, hs.t, rfl, rfl⟩) fun ha => ?_).to rfl) (.inr ⟨rfl, rfl⟩) (.inl rfl)
  obtain ⟨ns, rfl, _⟩ := areInts_ints ha
  have hl : ns.length < 64 := by have := hs _ rfl; simpa using this
  refine (e_eqLL (e_listT (d_var rfl) (flatAll_ints _)) (e_sortSetI (d_var rfl) hl)).to ?_
  rw [show intsD (.tuple (ns.map .int)) = ns from intsD_tup ns]
  congr 1
  rw [decide_eq_decide]
  exact sd_self

theorem ok_is_shortage {P : Program} {w : World} {K : PySem.W.Frag} {mg : Str → Option Value} {base : Heap} {f : Addr} {fd : FuncData} (F : Fun K "is_shortage" "is_shortage" s_is_shortage f fd) (T : Txt mg) (c_room : Cal P w K mg base CX0 1 "room" p_room (sp_room K)) (c_are_ascending : Cal P w K mg base CX0 3 "are_ascending" p_are_ascending (sp_are_ascendingX K)) (c_is_inside : Cal P w K mg base CX0 1 "is_inside" p_is_inside (sp_is_inside K)) :
    FnOk P w K mg base CX0 4 f fd p_is_shortage (sp_is_shortageX K) := by
  refine F.ok sc_is_shortage (fun vs H Q E h => spD_len h (by rintro ds k d ⟨as, C, cd, x, rfl, _⟩; rfl)) (fun cdv A outer s H vs Q E hr h => ⟨_, (pss_cons (ps_if (PW.pt (pw_or (pt_not (pt_val (pe_callB (k_isi (K := K) rfl) rfl T.b_isinstance (by decide +kernel) (pa_cons (pv 2) (pa_cons (pe_ty (n := "tuple") rfl T.b_tuple (by decide +kernel)) pa_nil))))) (pw_or1 (pt_cmpR (k_ne (K := K) rfl (rUnits hr)) (pe_callB (k_len (K := K) rfl) rfl T.b_len (by decide +kernel) (pa_cons (pv 2) pa_nil)) pe_int (nomark _))))) (pss_one (ps_ret pe_bl)) pss_nil)
      (pss_cons (ps_asg (pv 2) (k_tupA (K := K) (n := 2) rfl rfl (pgs_cons (pg_name (i := 3) sc_is_shortage.nd rfl (Or.inr rfl)) (pgs_cons (pg_name (i := 4) sc_is_shortage.nd rfl (Or.inl rfl)) pgs_nil))))
      (pss_cons (ps_if (PW.pt (pw_or (pt_not (pt_val (pe_cal c_are_ascending (hr.mono (by decide)) rfl pass0 (pa_cons (pv 3) (pa_cons (pe_callB (k_len (K := K) rfl) rfl T.b_len (by decide +kernel) (pa_cons (pv 0) pa_nil)) pa_nil))))) (pw_or1 (pt_not (pt_val (pe_cal c_are_ascending (hr.mono (by decide)) rfl pass0 (pa_cons (pv 4) (pa_cons (pe_callB (k_len (K := K) rfl) rfl T.b_len (by decide +kernel) (pa_cons (pv 1) pa_nil)) pa_nil)))))))) (pss_one (ps_ret pe_bl)) pss_nil)
      (pss_cons (ps_if (pt_not (pt_val (pe_callB (k_all (K := K) rfl rfl) rfl T.b_all (by decide +kernel) (pa_cons (pe_lc rfl sc_is_shortage.nd (k_seq (K := K) rfl (pv 4)) (blkOk_by (own := [("bucket", 5)]) (N := n_is_shortage) (sc := defScope s_is_shortage) (by decide +kernel)) (fun _ _ _ _ _ => by exact (pg_name (i := 5) sc_is_shortage.nd rfl (Or.inl rfl))) (fun _ _ _ _ _ => by exact pts_nil) (fun _ _ _ _ _ => by exact (pe_cal c_is_inside (hr.mono (by decide)) rfl pass0 (pa_cons (pe_ix (k_ix (K := K) rfl) (pv 1) (pv 5) (fun _ _ => rfl)) (pa_cons (pv 3) pa_nil))))) pa_nil)))) (pss_one (ps_ret pe_bl)) pss_nil)
      (pss_one (ps_ret (pe_cmpR op_gt (pe_callB (k_len (K := K) rfl) rfl T.b_len (by decide +kernel) (pa_cons (pv 4) pa_nil)) (pe_cal c_room (hr.mono (by decide)) rfl pass0 (pa_cons (pv 0) (pa_cons (pv 3) pa_nil))) (nomark _)))))))), run_pure (N := n_is_shortage) (fun ds k d hp => ?_) h⟩)
  obtain ⟨as, C, cd, x, rfl, hm, hC, al, hv, hs, rfl, rfl⟩ := hp
  by_cases hx : ∃ p q, x = .tuple [p, q]
  · obtain ⟨p, q, rfl⟩ := hx
    obtain ⟨hp', hq'⟩ := hv p q rfl
    refine q_no (EvT.to (t_or (a := false) (b := false) (EvT.to (t_not (t_B (e_isi (d_var rfl) rfl))) rfl) fun _ => EvT.to (t_test (e_neI (d_lenT (d_var rfl)) d_int)) rfl) rfl) ?_
    refine q_unpV (fun d => d = .tuple [p, q]) rfl (d_var rfl).n ?_
    rintro d rfl
    refine ⟨_, _, _, rfl, rfl, g_cons g_name (g_cons g_name g_nil), ?_⟩
    refine q_if (t_or (a := !ascD p as.length) (b := !ascD q C.length) (t_not (t_B (d_call (k := .v) (a_cons (d_var rfl) (a_cons (d_lenT (d_var rfl)) a_nil)) ⟨p, as.length, by rw [List.length_map], hp', rfl, rfl⟩))) fun _ => t_not (t_B (d_call (k := .v) (a_cons (d_var rfl) (a_cons (d_lenM (d_var rfl) hm) a_nil)) ⟨q, C.length, rfl, hq', rfl, rfl⟩))) (fun z => ?_) fun z => q_next ?_
    · refine q_ret (d_bl.to ?_) (.inr ⟨rfl, rfl⟩) (.inl rfl)
      rw [shB_pr]
      cases e1 : ascD p as.length with
      | false => rfl
      | true => cases e2 : ascD q C.length with
        | false => rfl
        | true => rw [e1, e2] at z; cases z
    · cases e1 : ascD p as.length with
      | false => rw [e1] at z; cases z
      | true =>
      cases e2 : ascD q C.length with
      | false => rw [e1, e2] at z; cases z
      | true =>
      have f1 := e1
      have f2 := e2
      unfold ascD at e1 e2
      rw [Bool.and_eq_true] at e1 e2
      obtain ⟨ns, rfl, rn⟩ := areInts_ints e1.1
      obtain ⟨ms, rfl, rm⟩ := areInts_ints e2.1
      have l1 : ns.length < 64 := by have := hp' _ rfl; simpa using this
      have l2 : ms.length < 64 := by have := hq' _ rfl; simpa using this
      have cn : castL (natL ns) = ns := by
        unfold castL natL
        rw [List.map_map]
        conv => rhs; rw [← List.map_id ns]
        exact List.map_congr_left fun i hi => by have := rn i hi; show ((i.toNat : Nat) : Int) = i; omega
      have sc : (.tuple (ns.map .int) : PyData) = setD (natL ns) := by unfold setD; rw [cn]
      have e3 : shB as C (.tuple [.tuple (ns.map .int), .tuple (ms.map .int)]) = (ms.all (fun i => insP (inS (natL ns)) (C.getD i.toNat [])) && decide (roomI as (natL ns) < (ms.length : Nat))) := by
        show shB as C (.tuple [_, _]) = _
        rw [shB_pr, f1, f2, show intsD (.tuple (ns.map .int)) = ns from intsD_tup ns, show intsD (.tuple (ms.map .int)) = ms from intsD_tup ms]
        rfl
      rw [e3]
      refine q_if (a := !ms.all (fun i => insP (inS (natL ns)) (C.getD i.toNat []))) (EvT.to (t_not (t_B (d_all (d_lcB (l := ms) (en := imI) (fun i => insP (inS (natL ns)) (C.getD i.toNat [])) (i_seqTI (d_var rfl) kv_ne) (by omega) fun i hi => ⟨_, _, g_name, fun j hj => hj, .v, ?_⟩)))) (by rw [List.all_map]; rfl)) (fun z => ?_) fun z => q_next ?_
      · have := rm i hi
        obtain ⟨i, rfl⟩ := Int.eq_ofNat_of_zero_le this.1
        have hi : i < C.length := by omega
        exact d_call (k := .v) (a_cons (e_ixM (d_var rfl) hm (d_var rfl) hi) (a_cons ((d_var rfl).to sc) a_nil)) ⟨C.getD i [], natL ns, rfl, by have := hC.own _ (gL_mem hi); omega, fun y hy => (hC.rng _ (gL_mem hi) y hy).1, rfl, rfl⟩
      · refine q_ret (d_bl.to ?_) (.inr ⟨rfl, rfl⟩) (.inl rfl)
        rw [Bool.not_eq_true'] at z
        rw [z]; rfl
      · rw [Bool.not_eq_false'] at z
        rw [z]
        exact s_ret (Ev.to (d_gt (d_lenT (d_var rfl)) (d_call (k := .v) (d := .int (roomI as (natL ns))) (a_cons (d_var rfl) (a_cons ((d_var rfl).to sc) a_nil)) ⟨as, natL ns, rfl, fun x hx => by
          obtain ⟨i, hi, rfl⟩ := List.mem_map.mp hx
          have := rn i hi
          omega, by unfold natL; rw [List.length_map]; omega, rfl, rfl⟩)) (by rw [List.length_map]; rfl)) (.inr ⟨rfl, rfl⟩) (.inl rfl)
  · have e : shB as C x = false := by
      unfold shB
      split
      · exact absurd ⟨_, _, rfl⟩ hx
      · rfl
    rw [e]
    cases x with
    | tuple es =>
      refine q_if (a := true) (EvT.to (t_or (a := false) (b := true) (EvT.to (t_not (t_B (e_isi (d_var rfl) rfl))) rfl) fun _ => EvT.to (t_test (e_neI (d_lenT (d_var rfl)) d_int)) ?_) rfl) (fun _ => q_ret d_bl (.inr ⟨rfl, rfl⟩) (.inl rfl)) fun z => by cases z
      rw [Bool.not_eq_true', decide_eq_false_iff_not]
      intro w
      match es, w with
      | [p, q], _ => exact hx ⟨p, q, rfl⟩
      | [], w => cases w
      | [_], w => simp at w
      | _ :: _ :: _ :: _, w => simp at w; omega
    | _ => exact q_if (a := true) (EvT.to (t_or (a := true) (b := true) (EvT.to (t_not (t_B (e_isi (d_var rfl) (kit_tuple _)))) rfl) fun w => by cases w) rfl) (fun _ => q_ret d_bl (.inr ⟨rfl, rfl⟩) (.inl rfl)) fun z => by cases z

theorem ok_spare_after {P : Program} {w : World} {K : PySem.W.Frag} {mg : Str → Option Value} {base : Heap} {f : Addr} {fd : FuncData} (F : Fun K "spare_after" "spare_after" s_spare_after f fd) (T : Txt mg) (c_is_inside : Cal P w K mg base CX0 1 "is_inside" p_is_inside (sp_is_inside K)) :
    FnOk P w K mg base CX0 2 f fd p_spare_after (sp_spare_after K) := by
  refine F.ok sc_spare_after (fun vs H Q E h => spD_len h (by rintro ds k d ⟨as, own, C, x, rfl, _⟩; rfl)) (fun cdv A outer s H vs Q E hr h => ⟨_, (pss_cons (ps_setLc (i := 4) rfl sc_spare_after.nd rfl rfl (sw_true rfl rfl rfl (by decide +kernel)) (k_seq (K := K) rfl (pv 0)) (blkOk_by (own := [("chosen", 5)]) (N := n_spare_after) (sc := defScope s_spare_after) (by decide +kernel)) (fun _ _ _ _ _ => by exact (pg_name (i := 5) sc_spare_after.nd rfl (Or.inl rfl))) (fun _ _ _ _ _ => by exact pts_nil) (fun _ _ _ _ _ => by exact (pe_and (pe_cmpR (k_in (K := K) rfl) (pv 3) (pv 5) (by with_unfolding_all rfl)) (pe_one (pe_not (pe_cal c_is_inside (hr.mono (by decide)) rfl pass0 (pa_cons (pv 2) (pa_cons (pv 5) pa_nil))))))))
      (pss_one (ps_ret (pe_lc rfl sc_spare_after.nd (k_zip (K := K) rfl rfl T.b_zip (pa_cons (pv 1) (pa_cons (pv 4) pa_nil))) (blkOk_by (own := [("have", 6), ("loses", 7)]) (N := n_spare_after) (sc := defScope s_spare_after) (by decide +kernel)) (fun _ _ _ _ _ => by exact (k_tup (K := K) (n := 2) rfl rfl (pgs_cons (pg_name (i := 6) sc_spare_after.nd rfl (Or.inl rfl)) (pgs_cons (pg_name (i := 7) sc_spare_after.nd rfl (Or.inl rfl)) pgs_nil)))) (fun _ _ _ _ _ => by exact pts_nil) (fun _ _ _ _ _ => by exact (pe_ifExp (pt_val (pv 7)) (pe_op op_sub (pv 6) pe_int) (pv 6))))))), run_pure (N := n_spare_after) (fun ds k d hp => ?_) h⟩)
  obtain ⟨as, own, C, x, rfl, al, ol, o0, rfl, rfl⟩ := hp
  have tot := vs_len as.length (by omega)
  refine q_asgO (d := .list ((vsN as.length).map fun s => PyData.bool (decide ((x : Int) ∈ castL s) && !insP (inS s) own))) (d_lcA (l := vsN as.length) (en := fun s => Im.d (setD s)) (fun s => .bool (decide ((x : Int) ∈ castL s) && !insP (inS s) own)) (Eq.mp (by rw [List.map_map]; rfl) (i_seqL (ds := (vsN as.length).map setD) (d_var rfl) kv_ne)) (by omega) fun s hs => ⟨_, _, g_name, fun j hj => hj, Ev.fo (d_andV (d_inT (neg := false) (d_var rfl) (d_var rfl)) fun _ => d_notV (d_call (k := .v) (a_cons (d_var rfl) (a_cons (d_var rfl) a_nil)) ⟨own, s, rfl, by omega, o0, rfl, rfl⟩)) rfl⟩) ?_
  refine s_freeze (n := 4) rfl ?_
  have ez : zipD ((spsL as (own :: C)).map .int) ((vsN as.length).map fun s => PyData.bool (decide ((x : Int) ∈ castL s) && !insP (inS s) own)) = (vsN as.length).map fun s => .t [.d (.int (spI as (own :: C) s)), .d (.bool (decide ((x : Int) ∈ castL s) && !insP (inS s) own))] := by
    unfold zipD spsL
    rw [List.map_map, List.zip_map', List.map_map]
    rfl
  refine s_ret (Ev.to (d_lcI (l := vsN as.length) (en := fun s => Im.t [.d (.int (spI as (own :: C) s)), .d (.bool (decide ((x : Int) ∈ castL s) && !insP (inS s) own))]) (fun s => spI as (own :: C) s - b1 (decide ((x : Int) ∈ castL s) && !insP (inS s) own)) (ez ▸ i_zipLL (d_var rfl) (d_var rfl) kv_ne kv_ne) (by omega) fun s hs => ⟨_, _, g_tup rfl (g_cons g_name (g_cons g_name g_nil)), fun j hj => hj, .v, d_if (t_B (d_var rfl)) (fun w => Ev.to (d_sub (d_var rfl) d_int) (by rw [w]; rfl)) fun w => Ev.to (d_var rfl) (by rw [w]; unfold b1; simp)⟩) ?_) (.inl rfl) (.inl rfl)
  unfold aftS
  congr 2
  refine List.map_congr_left fun s hs => ?_
  have e : decide ((x : Int) ∈ castL s) = inS s (x : Int).toNat := by
    unfold inS castL
    rw [decide_eq_decide, Int.toNat_natCast]
    constructor
    · intro h
      obtain ⟨y, hy, e⟩ := List.mem_map.mp h
      have : y = x := by omega
      rw [← this]; exact hy
    · intro h
      exact List.mem_map.mpr ⟨x, h, rfl⟩
  rw [e]

theorem ok_first_fit {P : Program} {w : World} {K : PySem.W.Frag} {mg : Str → Option Value} {base : Heap} {f : Addr} {fd : FuncData} (F : Fun K "first_fit" "first_fit" s_first_fit f fd) (T : Txt mg) (c_variant_sets : Cal P w K mg base CX0 1 "variant_sets" p_variant_sets (sp_variant_sets K)) (c_spare_after : Cal P w K mg base CX0 2 "spare_after" p_spare_after (sp_spare_after K)) (c_room : Cal P w K mg base CX0 1 "room" p_room (sp_room K)) (c_confined : Cal P w K mg base CX0 2 "confined" p_confined (sp_confined K)) :
    FnOk P w K mg base CX0 3 f fd p_first_fit (sp_first_fit K) := by
  refine F.ok sc_first_fit (fun vs H Q E h => spD_len h (by rintro ds k d ⟨as, C, cd, rfl, _⟩; rfl)) (fun cdv A outer s H vs Q E hr h => ⟨_, (pss_cons (ps_set (i := 2) sc_first_fit.nd rfl (Or.inr rfl) (pe_cal c_variant_sets (hr.mono (by decide)) rfl pass0 (pa_cons (pe_callB (k_len (K := K) rfl) rfl T.b_len (by decide +kernel) (pa_cons (pv 0) pa_nil)) pa_nil)))
      (pss_cons (ps_set (i := 3) sc_first_fit.nd rfl (Or.inr rfl) (pe_lc rfl sc_first_fit.nd (k_seq (K := K) rfl (pv 2)) (blkOk_by (own := [("chosen", 4)]) (N := n_first_fit) (sc := defScope s_first_fit) (by decide +kernel)) (fun _ _ _ _ _ => by exact (pg_name (i := 4) sc_first_fit.nd rfl (Or.inl rfl))) (fun _ _ _ _ _ => by exact pts_nil) (fun _ _ _ _ _ => by exact (pe_op op_sub (pe_cal c_room (hr.mono (by decide)) rfl pass0 (pa_cons (pv 0) (pa_cons (pv 4) pa_nil))) (pe_callB (k_len (K := K) rfl) rfl T.b_len (by decide +kernel) (pa_cons (pe_cal c_confined (hr.mono (by decide)) rfl pass0 (pa_cons (pv 1) (pa_cons (pv 4) pa_nil))) pa_nil))))))
      (pss_cons (ps_if (pt_cmpR op_lt (pe_callB (k_min (K := K) rfl rfl) rfl T.b_min (by decide +kernel) (pa_cons (pv 3) pa_nil)) pe_int (nomark _)) (pss_one (ps_ret pe_non)) pss_nil)
      (pss_cons (ps_set (i := 5) sc_first_fit.nd rfl (Or.inl rfl) (pe_lst pa_nil))
      (pss_cons (ps_for PassesOwn.never rfl (k_seq (K := K) rfl (pv 1)) (pg_name (i := 6) sc_first_fit.nd rfl (Or.inr rfl)) (pss_cons (ps_setLc (i := 7) rfl sc_first_fit.nd rfl rfl (sw_true rfl rfl rfl (by decide +kernel)) (k_seq (K := K) rfl (pv 6)) (blkOk_by (own := [("variant", 8)]) (N := n_first_fit) (sc := defScope s_first_fit) (by decide +kernel)) (fun _ _ _ _ _ => by exact (pg_name (i := 8) sc_first_fit.nd rfl (Or.inl rfl))) (fun _ _ _ _ _ => by exact (pts_one (pt_cmpR op_ge (pe_callB (k_min (K := K) rfl rfl) rfl T.b_min (by decide +kernel) (pa_cons (pe_cal c_spare_after (hr.mono (by decide)) rfl pass0 (pa_cons (pv 2) (pa_cons (pv 3) (pa_cons (pv 6) (pa_cons (pv 8) pa_nil))))) pa_nil)) pe_int (nomark _)))) (fun _ _ _ _ _ => by exact (pv 8)))
      (pss_cons (ps_set (i := 3) sc_first_fit.nd rfl (Or.inr rfl) (pe_cal c_spare_after (hr.mono (by decide)) rfl pass0 (pa_cons (pv 2) (pa_cons (pv 3) (pa_cons (pv 6) (pa_cons (pe_ix (k_ix (K := K) rfl) (pv 7) pe_int (fun _ _ => rfl)) pa_nil))))))
      (pss_one (ps_expr (k_bm (K := K) rfl PySem.F.plainAttrs_list PySem.F.slot_list_append PySem.F.type_list_append mt_append (pv 5) (pa_cons (pe_ix (k_ix (K := K) rfl) (pv 7) pe_int (fun _ _ => rfl)) pa_nil)))))))
      (pss_one (ps_ret (pe_callTy (k_tuple (K := K) rfl) rfl T.b_tuple (by decide +kernel) (pa_cons (pv 5) pa_nil))))))))), run_pure (N := n_first_fit) (fun ds k d hp => ?_) h⟩)
  obtain ⟨as, C, cd, rfl, hm, hC, al, hs, rfl, rfl⟩ := hp
  have cl := hC.len
  have tot := vs_len as.length (by omega)
  have vp := vs_pos as.length
  have fo := flat_op (o := ffO as C)
  refine q_asgO (d := .list ((vsN as.length).map setD)) (d_call (k := .o) (a_cons ((d_lenT (d_var rfl)).to (by rw [List.length_map])) a_nil) ⟨as.length, rfl, al, rfl, rfl⟩) ?_
  refine s_freeze (n := 2) rfl ?_
  refine q_asgO (d := .list ((spsL as C).map .int)) (Ev.to (d_lcI (l := vsN as.length) (en := fun s => Im.d (setD s)) (spI as C) (Eq.mp (by rw [List.map_map]; rfl) (i_seqL (ds := (vsN as.length).map setD) (d_var rfl) kv_ne)) (by omega) fun s hs => ⟨_, _, g_name, fun j hj => hj, .v, ?_⟩) rfl) ?_
  · have sub := vs_sub hs
    have sl := sub.length_le
    rw [List.length_range] at sl
    exact Ev.to (d_sub (d_call (k := .v) (a_cons (d_var rfl) (a_cons (d_var rfl) a_nil)) ⟨as, s, rfl, fun x hx => List.mem_range.mp (sub.subset hx), by omega, rfl, rfl⟩) (d_lenT (d_call (k := .v) (d := tupD (cnfL C s)) (a_cons (d_var rfl) (a_cons (d_var rfl) a_nil)) ⟨C, s, as.length, cd, rfl, hm, hC, rfl, rfl⟩))) (by rw [List.length_map, cnf_len]; rfl)
  have sl : 0 < (spsL as C).length := by unfold spsL; rw [List.length_map]; exact vp
  refine q_if (t_test (d_lt (e_minL (d_varO rfl) sl) d_int)) (fun w => q_ret (d_non.to (y := opD (ffO as C)) ?_) (.inr ⟨rfl, fo⟩) (.inl rfl)) fun w => q_next ?_
  · have w' := of_decide_eq_true w
    have : ¬ Hall as C := fun h => by
      have := (hall_mn hC.rng).mp h
      omega
    unfold ffO
    rw [@if_neg _ (Classical.propDecidable _) this]
    rfl
  have hall : Hall as C := (hall_mn hC.rng).mpr (by have := of_decide_eq_false w; omega)
  have eff : ffO as C = some (grd as C) := @if_pos _ (Classical.propDecidable _) hall _ _ _
  rw [eff]
  refine q_asgO (d := .list (([] : List Int).map .int)) (d_lst (kv := false) (ds := []) a_nil rfl (by decide)) ?_
  refine q_for (i_mns (d_var rfl) hm)
    (fun n Γ1 => ∃ (bs acc : List Int) (t6 t7 : Option Rs), Γ1 = [some (.v (tupD as)), some (.v cd), some (.v (.list ((vsN as.length).map setD))), some (.o (.list ((spsL bs (C.drop n)).map .int))), none, some (.o (.list (acc.map .int))), t6, t7, none] ∧ bs.length = as.length ∧ Hall bs (C.drop n) ∧ acc.length = n ∧ acc ++ grd bs (C.drop n) = grd as C) ⟨as, [], _, _, rfl, rfl, hall, rfl, rfl⟩ (fun n a Γ1 hn' hI => ?_) (fun Γ1 hI => ?_)
  · obtain ⟨bs, acc, t6, t7, rfl, bl, hb, la, hg⟩ := hI
    have hn : n < C.length := by have := (List.getElem?_eq_some_iff.mp hn').1; simpa using this
    have ea : a = tupI (C.getD n []) := by
      rw [List.getElem?_map, List.getElem?_eq_getElem hn] at hn'
      rw [List.getD_eq_getElem?_getD, List.getElem?_eq_getElem hn]
      exact (Option.some.inj hn').symm
    subst ea
    have dr := drop_at hn
    rw [dr] at hb hg ⊢
    have mem := gL_mem hn
    obtain ⟨own, ho⟩ : ∃ own, own = C.getD n [] := ⟨_, rfl⟩
    rw [← ho] at hb hg mem ⊢
    have or : ∀ y ∈ own, 0 ≤ y ∧ y < (bs.length : Int) := fun y hy => by rw [bl]; exact hC.rng own mem y hy
    have ol := hC.own own mem
    have rD : Rng (C.drop (n + 1)) bs.length := fun o hoo => by rw [bl]; exact hC.rng o (List.mem_of_mem_drop hoo)
    obtain ⟨pf, hpf⟩ : ∃ pf : Int → Bool, pf = fun x => decide (0 ≤ mnL (aftS bs own (C.drop (n + 1)) x)) := ⟨_, rfl⟩
    have pfe : ∀ x ∈ own, pf x = @decide (Hall (dcI x bs) (C.drop (n + 1))) (Classical.propDecidable _) := fun x hx => by
      rw [hpf]
      show decide (0 ≤ mnL (aftS bs own (C.drop (n + 1)) x)) = _
      have h1 := hall_mn (as := dcI x bs) (C := C.drop (n + 1)) (by rw [dcI_len]; exact rD)
      rw [aft_is hx (or x hx)]
      by_cases q : Hall (dcI x bs) (C.drop (n + 1))
      · rw [@decide_eq_true _ (Classical.propDecidable _) q]
        exact decide_eq_true (h1.mp q)
      · rw [@decide_eq_false _ (Classical.propDecidable _) q]
        exact decide_eq_false fun z => q (h1.mpr z)
    have fe : own.filter pf = own.filter fun x => @decide (Hall (dcI x bs) (C.drop (n + 1))) (Classical.propDecidable _) := List.filter_congr pfe
    have ex : ∃ x ∈ own, pf x = true := by
      obtain ⟨x, hx, hh⟩ := hall_step or hb
      exact ⟨x, hx, by rw [pfe x hx]; exact @decide_eq_true _ (Classical.propDecidable _) hh⟩
    obtain ⟨m1, m2⟩ := headF_mem ex
    obtain ⟨z, hz⟩ : ∃ z, z = (own.filter pf).headD 0 := ⟨_, rfl⟩
    rw [← hz] at m1 m2
    have fp : 0 < (own.filter pf).length := by
      obtain ⟨x, hx, hh⟩ := ex
      exact List.length_pos_of_mem (List.mem_filter.mpr ⟨hx, hh⟩)
    have at0 : atI ((own.filter pf).map PyData.int) 0 = some (.int z) := by
      have := at_ints (ns := own.filter pf) (j := 0) fp
      rw [hz]
      cases q : own.filter pf with
      | nil => rw [q] at fp; simp at fp
      | cons y r => rw [q] at this; exact this
    obtain ⟨Z, rfl⟩ := Int.eq_ofNat_of_zero_le (or z m1).1
    have vlen : (vsN bs.length) = vsN as.length := by rw [bl]
    refine ⟨_, _, g_name, q_asgO (d := .list ((own.filter pf).map .int)) (d_lc (l := own) (en := imI) pf (fun x => .int x) (i_seqTI (d_var rfl) kv_ne) (by omega) fun x hx => ⟨_, _, g_name, fun j hj => hj, ?_, fun _ => (d_var rfl).fo rfl⟩) ?_⟩
    · obtain ⟨y, rfl⟩ := Int.eq_ofNat_of_zero_le (or x hx).1
      have ap : 0 < (aftS bs own (C.drop (n + 1)) (y : Int)).length := by unfold aftS; rw [List.length_map]; exact vs_pos _
      exact EvT.to (t_test (d_ge (e_minL (d_call (k := .o) (d := .list ((aftS bs own (C.drop (n + 1)) (y : Int)).map .int)) (a_cons (d_var rfl) (a_cons (d_varO rfl) (a_cons (d_var rfl) (a_cons (d_var rfl) a_nil)))) ⟨bs, own, C.drop (n + 1), y, by rw [vlen], by omega, ol, fun y hy => (or y hy).1, rfl, rfl⟩) ap) d_int)) (by rw [hpf])
    refine q_asgO (d := .list ((spsL (dcI (Z : Int) bs) (C.drop (n + 1))).map .int)) (Ev.to (d_call (k := .o) (d := .list ((aftS bs own (C.drop (n + 1)) (Z : Int)).map .int)) (a_cons (d_var rfl) (a_cons (d_varO rfl) (a_cons (d_var rfl) (a_cons (e_ixL (d_varO rfl) d_int at0 rfl) a_nil)))) ⟨bs, own, C.drop (n + 1), Z, by rw [vlen], by omega, ol, fun y hy => (or y hy).1, rfl, rfl⟩) (by rw [aft_is m1 (or _ m1)])) ?_
    refine s_app rfl (e_ixL (d_varO rfl) d_int at0 rfl) rfl (by rw [List.length_map]; omega) (.inl ⟨_, .inl rfl, dcI (Z : Int) bs, acc ++ [(Z : Int)], some (.v (tupD own)), some (.o (.list ((own.filter pf).map .int))), ?_, by rw [dcI_len, bl], ?_, by simp [la], ?_⟩)
    · rw [List.map_append]
      rfl
    · have := pfe _ m1
      rw [m2] at this
      exact @of_decide_eq_true _ (Classical.propDecidable _) this.symm
    · rw [← hg, List.append_assoc]
      congr 1
      show _ = (own.filter fun x => @decide (Hall (dcI x bs) (C.drop (n + 1))) (Classical.propDecidable _)).headD 0 :: grd (dcI ((own.filter fun x => @decide (Hall (dcI x bs) (C.drop (n + 1))) (Classical.propDecidable _)).headD 0) bs) (C.drop (n + 1))
      rw [← fe, ← hz]
      rfl
  · obtain ⟨bs, acc, t6, t7, rfl, bl, hb, la, hg⟩ := hI
    rw [List.length_map, List.drop_length] at hg
    refine s_ret (Ev.to (d_tuple (d_varO rfl) (flatAll_ints _)) ?_) (.inr ⟨rfl, flatT _⟩) (.inl rfl)
    have : grd as C = acc := by rw [← hg]; show acc ++ [] = acc; simp
    rw [this]

theorem ok_check_continuing {P : Program} {w : World} {K : PySem.W.Frag} {mg : Str → Option Value} {base : Heap} {f : Addr} {fd : FuncData} (F : Fun K "check_continuing" "check_continuing" s_check_continuing f fd) (T : Txt mg) (c_check_rule : Cal P w K mg base CX0 9 "check_rule" p_check_rule (sp_check_rule K)) (c_require : Cal P w K mg base CX0 1 "require" p_require (sp_require K)) (c_is_allocation : Cal P w K mg base CX0 3 "is_allocation" p_is_allocation (sp_is_allocation K)) :
    FnOk P w K mg base CX0 10 f fd p_check_continuing (sp_check_continuing K) := by
  refine F.ok sc_check_continuing (fun vs H Q E h => spD_len h (by rintro ds k d ⟨R, A, v, b, rfl, _⟩; rfl)) (fun cdv A outer s H vs Q E hr h => ⟨_, (pss_cons (ps_expr (pe_cal c_check_rule (hr.mono (by decide)) rfl pass0 (pa_cons (pv 0) (pa_cons (pv 1) (pa_cons (pv 2) pa_nil)))))
      (pss_one (ps_expr (pe_cal c_require (hr.mono (by decide)) rfl pass0 (pa_cons (pe_cal c_is_allocation (hr.mono (by decide)) rfl pass0 (pa_cons (pv 3) (pa_cons (pv 0) (pa_cons (pv 1) pa_nil)))) (pa_cons pe_str pa_nil)))))), run_pure (N := n_check_continuing) (fun ds k d hp => ?_) h⟩)
  obtain ⟨R, A, v, b, rfl, h, hA, rfl, rfl⟩ := hp
  have al := hA.len
  have v5 := h.v5
  refine q_drop (d_call (k := .v) (d := .none) (a_cons (d_var rfl) (a_cons (d_var rfl) (a_cons (d_var rfl) a_nil))) ⟨R, v, b, rfl, h, rfl, rfl⟩) ?_
  exact s_drop (d_call (k := .v) (d := .none) (a_cons (d_call (k := .v) (d := .bool true) (a_cons (d_var rfl) (a_cons (d_var rfl) (a_cons (d_var rfl) a_nil))) ⟨tupD A, v, b, rfl, small_ints (by omega), rfl, by rw [hA.isAlloc]⟩) (a_cons d_str a_nil)) ⟨_, rfl, rfl, rfl⟩) (.inr ⟨rfl, rfl, _, rfl⟩)

theorem ok_is_allowed {P : Program} {w : World} {K : PySem.W.Frag} {mg : Str → Option Value} {base : Heap} {f : Addr} {fd : FuncData} (F : Fun K "is_allowed" "is_allowed" s_is_allowed f fd) (T : Txt mg) :
    FnOk P w K mg base CX0 1 f fd p_is_allowed (sp_is_allowed K) := by
  refine F.ok sc_is_allowed (fun vs H Q E h => spD_len h (by rintro ds k d ⟨R, A, v, b, i, x, rfl, _⟩; rfl)) (fun cdv A outer s H vs Q E hr h => ⟨_, (pss_cons (ps_for PassesOwn.never rfl (k_seq (K := K) rfl (pv 0)) (k_tup (K := K) (n := 2) rfl rfl (pgs_cons (pg_name (i := 4) sc_is_allowed.nd rfl (Or.inl rfl)) (pgs_cons (pg_name (i := 5) sc_is_allowed.nd rfl (Or.inl rfl)) pgs_nil))) (pss_cons (ps_set (i := 6) sc_is_allowed.nd rfl (Or.inl rfl) (pe_ix (k_ix (K := K) rfl) (pv 5) (pv 2) (fun _ _ => rfl)))
      (pss_cons (ps_if (pt_cmpR (k_eq (K := K) rfl (rUnits hr)) (pv 6) (pv 3) (nomark _)) (pss_one ps_continue) pss_nil)
      (pss_cons (ps_if (PW.pt (pw_and (pt_cmpR (k_ne (K := K) rfl (rUnits hr)) (pv 6) (pe_const rfl T.k_CONTROL) (nomark _)) (pw_and1 (pt_cmpR op_le (pe_ix (k_ix (K := K) rfl) (pv 4) (pv 6) (fun _ _ => rfl)) (pe_ix (k_ix (K := K) rfl) (pv 1) (pv 6) (fun _ _ => rfl)) (nomark _))))) (pss_one (ps_ret pe_bl)) pss_nil)
      (pss_one (ps_if (PW.pt (pw_and (pt_cmpR (k_ne (K := K) rfl (rUnits hr)) (pv 3) (pe_const rfl T.k_CONTROL) (nomark _)) (pw_and1 (pt_cmpR op_ge (pe_ix (k_ix (K := K) rfl) (pv 4) (pv 3) (fun _ _ => rfl)) (pe_ix (k_ix (K := K) rfl) (pv 1) (pv 3) (fun _ _ => rfl)) (nomark _))))) (pss_one (ps_ret pe_bl)) pss_nil))))))
      (pss_one (ps_ret pe_bl))), run_pure (N := n_is_allowed) (fun ds k d hp => ?_) h⟩)
  obtain ⟨R, A, v, b, i, x, rfl, h, hA, hi, hx, rfl, rfl⟩ := hp
  have Al := hA.len
  refine q_for (i_prs (d_var rfl) kv_ne)
    (fun n Γ1 => ∃ t4 t5 t6, Γ1 = [some (.v (.tuple (R.map rlD))), some (.v (tupD A)), some (.v (.int (i : Int))), some (.v (.int (x : Int))), t4, t5, t6] ∧ ∀ j < n, letB (gR R j) A i x = true) ⟨_, _, _, rfl, by intro j hj; omega⟩ (fun n a Γ1 hn' hI => ?_) (fun Γ1 hI => ?_)
  · obtain ⟨t4, t5, t6, rfl, hq⟩ := hI
    have hn : n < R.length := by have := (List.getElem?_eq_some_iff.mp hn').1; simpa using this
    have ea : a = rlI (gR R n) := by
      rw [List.getElem?_map, List.getElem?_eq_getElem hn] at hn'
      unfold gR
      rw [List.getD_eq_getElem?_getD, List.getElem?_eq_getElem hn]
      exact (Option.some.inj hn').symm
    subst ea
    have hp := h.ok _ (gR_mem hn)
    have mem := gR_mem hn
    obtain ⟨p, ep⟩ : ∃ p, p = gR R n := ⟨_, rfl⟩
    rw [← ep] at hp mem ⊢
    have pl := hp.len
    have p1 := hp.alc.len
    have r := hp.rng _ (gd_mem (l := p.2) (j := i) (by omega))
    obtain ⟨o, ho⟩ : ∃ o : Nat, p.2.getD i 0 = (o : Int) := ⟨(p.2.getD i 0).toNat, by omega⟩
    have no : letB p A i x = false → alwB R A i x = false := fun w => by
      unfold alwB
      exact List.all_eq_false.mpr ⟨p, mem, by rw [w]; decide⟩
    have le : letB p A i x = (decide ((o : Int) = x) || (!(!decide ((o : Int) = 0) && decide (p.1.getD o 0 ≤ A.getD o 0)) && !(!decide ((x : Int) = 0) && decide (A.getD x 0 ≤ p.1.getD x 0)))) := by
      unfold letB
      rw [ho]
      rfl
    refine ⟨_, _, g_tupD rfl (g_cons g_name (g_cons g_name g_nil)), q_asg (d := .int (o : Int)) ((e_ixT (d_var rfl) (d_var rfl) (at_ints (by omega)) rfl).to (by rw [ho])) ?_⟩
    refine q_if (t_test (e_eqI (d_var rfl) (d_var rfl))) (fun w => q_cont (.inl ⟨_, .inr rfl, _, _, _, rfl, fun j hj => ?_⟩)) fun w => q_next ?_
    · by_cases e : j = n
      · rw [e, ← ep, le, w]; rfl
      · exact hq j (by omega)
    refine q_if (t_and (t_test (e_neI (d_var rfl) d_int)) fun _ => t_test (d_le (e_ixT (d_var rfl) (d_var rfl) (at_ints (ns := p.1) (j := o) (by omega)) rfl) (e_ixT (d_var rfl) (d_var rfl) (at_ints (ns := A) (j := o) (by omega)) rfl))) (fun z => q_ret ((d_bl (a := false)).to (y := .bool (alwB R A i x)) ?_) (.inr ⟨rfl, rfl⟩) (.inr (.inr ⟨_, _, rfl, .inl rfl⟩))) fun z => q_next ?_
    · rw [no (by rw [le, w, z]; rfl)]
    refine s_if (t_and (t_test (e_neI (d_var rfl) d_int)) fun _ => t_test (d_ge (e_ixT (d_var rfl) (d_var rfl) (at_ints (ns := p.1) (j := x) (by omega)) rfl) (e_ixT (d_var rfl) (d_var rfl) (at_ints (ns := A) (j := x) (by omega)) rfl))) (fun u => s_ret ((d_bl (a := false)).to (y := .bool (alwB R A i x)) ?_) (.inr ⟨rfl, rfl⟩) (.inr (.inr ⟨_, _, rfl, .inl rfl⟩))) fun u => s_next (.inl ⟨_, .inl rfl, _, _, _, rfl, fun j hj => ?_⟩)
    · rw [no (by rw [le, w, z, u]; rfl)]
    · by_cases e : j = n
      · rw [e, ← ep, le, w, z, u]; rfl
      · exact hq j (by omega)
  · obtain ⟨t4, t5, t6, rfl, hq⟩ := hI
    refine s_ret ((d_bl (a := true)).to (y := .bool (alwB R A i x)) ?_) (.inr ⟨rfl, rfl⟩) (.inl rfl)
    have : alwB R A i x = true := by
      unfold alwB
      rw [List.all_eq_true]
      intro p hp
      obtain ⟨j, hj⟩ := List.getElem?_of_mem hp
      have jl := (List.getElem?_eq_some_iff.mp hj).1
      have := hq j (by simpa using jl)
      unfold gR at this
      rwa [List.getD_eq_getElem?_getD, hj] at this
    rw [this]

theorem ok_allowed_for_all {P : Program} {w : World} {K : PySem.W.Frag} {mg : Str → Option Value} {base : Heap} {f : Addr} {fd : FuncData} (F : Fun K "allowed_for_all" "allowed_for_all" s_allowed_for_all f fd) (T : Txt mg) (c_is_allowed : Cal P w K mg base CX0 1 "is_allowed" p_is_allowed (sp_is_allowed K)) :
    FnOk P w K mg base CX0 2 f fd p_allowed_for_all (sp_allowed_for_all K) := by
  refine F.ok sc_allowed_for_all (fun vs H Q E h => spD_len h (by rintro ds k d ⟨R, A, v, b, rfl, _⟩; rfl)) (fun cdv A outer s H vs Q E hr h => ⟨_, (pss_cons (ps_set (i := 4) sc_allowed_for_all.nd rfl (Or.inl rfl) (pe_lst pa_nil))
      (pss_cons (ps_for PassesOwn.never rfl (pi_range1 rfl T.b_range (pa_cons (pv 1) pa_nil)) (pg_name (i := 5) sc_allowed_for_all.nd rfl (Or.inr rfl)) (pss_one (ps_expr (k_bm (K := K) rfl PySem.F.plainAttrs_list PySem.F.slot_list_append PySem.F.type_list_append mt_append (pv 4) (pa_cons (pe_callTy (k_tuple (K := K) rfl) rfl T.b_tuple (by decide +kernel) (pa_cons (pe_lc rfl sc_allowed_for_all.nd (pi_range1 rfl T.b_range (pa_cons (pv 0) pa_nil)) (blkOk_by (own := [("v", 6)]) (N := n_allowed_for_all) (sc := defScope s_allowed_for_all) (by decide +kernel)) (fun _ _ _ _ _ => by exact (pg_name (i := 6) sc_allowed_for_all.nd rfl (Or.inl rfl))) (fun _ _ _ _ _ => by exact (pts_one (pt_val (pe_cal c_is_allowed (hr.mono (by decide)) rfl pass0 (pa_cons (pv 2) (pa_cons (pv 3) (pa_cons (pv 5) (pa_cons (pv 6) pa_nil)))))))) (fun _ _ _ _ _ => by exact (pv 6))) pa_nil)) pa_nil)))))
      (pss_one (ps_ret (pe_callTy (k_tuple (K := K) rfl) rfl T.b_tuple (by decide +kernel) (pa_cons (pv 4) pa_nil)))))), run_pure (N := n_allowed_for_all) (fun ds k d hp => ?_) h⟩)
  obtain ⟨R, A, v, b, rfl, h, hA, rfl, rfl⟩ := hp
  have v1 := h.v1
  have v5 := h.v5
  have b20 := h.b20
  have b0 := h.b0
  obtain ⟨B, rfl⟩ : ∃ B : Nat, b = (B : Int) := ⟨b.toNat, by omega⟩
  rw [Int.toNat_natCast]
  refine q_asgO (d := .list (([] : List (List Int)).map tupD)) (d_lst (kv := false) (ds := []) a_nil rfl (by decide)) ?_
  refine q_for (i_rngN (n := B) (a_cons (d_var rfl) a_nil) (by omega))
    (fun n Γ1 => ∃ t5, Γ1 = [some (.v (.int v)), some (.v (.int (B : Int))), some (.v (.tuple (R.map rlD))), some (.v (tupD A)), some (.o (.list (((List.range n).map (alwV R A v)).map tupD))), t5, none]) ⟨_, rfl⟩ (fun n a Γ1 hn' hI => ?_) (fun Γ1 hI => ?_)
  · obtain ⟨t5, rfl⟩ := hI
    obtain ⟨hn, rfl⟩ := rngN_at hn'
    refine ⟨_, _, g_name, s_app rfl (d := tupD (alwV R A v n)) (d_tuple (d_lc (l := upI 0 v.toNat) (en := imI) (alwB R A n) (fun x => .int x) (i_rng1 (a_cons (d_var rfl) a_nil) (by omega) (by omega)) (by simp [upI]; omega) fun x hx => ⟨_, _, g_name, fun j hj => hj, t_B (k := .v) ?_, fun _ => (d_var rfl).fo rfl⟩) (flatAll_ints _)) (flatT _) (by simp; omega) (.inl ⟨_, .inl rfl, some (.v (.int (n : Int))), ?_⟩)⟩
    · obtain ⟨x0, x1⟩ := mem_upI.mp hx
      obtain ⟨x, rfl⟩ := Int.eq_ofNat_of_zero_le x0
      exact d_call (k := .v) (a_cons (d_var rfl) (a_cons (d_var rfl) (a_cons (d_var rfl) (a_cons (d_var rfl) a_nil)))) ⟨R, A, v, B, n, x, rfl, h, hA, by omega, by omega, rfl, rfl⟩
    · rw [List.range_succ, List.map_append, List.map_append]
      rfl
  · obtain ⟨t5, rfl⟩ := hI
    rw [List.length_map, List.length_range]
    exact s_ret (d_tuple (d_varO rfl) (fl_rows _)) (.inr ⟨rfl, fl_rows _⟩) (.inl rfl)

theorem ok_allowed_variants {P : Program} {w : World} {K : PySem.W.Frag} {mg : Str → Option Value} {base : Heap} {f : Addr} {fd : FuncData} (F : Fun K "allowed_variants" "allowed_variants" s_allowed_variants f fd) (T : Txt mg) (c_check_continuing : Cal P w K mg base CX0 10 "check_continuing" p_check_continuing (sp_check_continuing K)) (c_allowed_for_all : Cal P w K mg base CX0 2 "allowed_for_all" p_allowed_for_all (sp_allowed_for_all K)) :
    FnOk P w K mg base CX0 11 f fd p_allowed_variants (sp_allowed_variants K) := by
  refine F.ok sc_allowed_variants (fun vs H Q E h => spD_len h (by rintro ds k d ⟨R, A, v, b, rfl, _⟩; rfl)) (fun cdv A outer s H vs Q E hr h => ⟨_, (pss_cons (ps_expr (pe_cal c_check_continuing (hr.mono (by decide)) rfl pass0 (pa_cons (pv 0) (pa_cons (pv 1) (pa_cons (pv 2) (pa_cons (pv 3) pa_nil))))))
      (pss_one (ps_ret (pe_cal c_allowed_for_all (hr.mono (by decide)) rfl pass0 (pa_cons (pv 0) (pa_cons (pv 1) (pa_cons (pv 2) (pa_cons (pv 3) pa_nil)))))))), run_pure (N := n_allowed_variants) (fun ds k d hp => ?_) h⟩)
  obtain ⟨R, A, v, b, rfl, h, hA, rfl, rfl⟩ := hp
  refine q_drop (d_call (k := .v) (d := .none) (a_cons (d_var rfl) (a_cons (d_var rfl) (a_cons (d_var rfl) (a_cons (d_var rfl) a_nil)))) ⟨R, A, v, b, rfl, h, hA, rfl, rfl⟩) ?_
  exact s_ret (d_call (k := .v) (a_cons (d_var rfl) (a_cons (d_var rfl) (a_cons (d_var rfl) (a_cons (d_var rfl) a_nil)))) ⟨R, A, v, b, rfl, h, hA, rfl, rfl⟩) (.inr ⟨rfl, fl_rows _⟩) (.inl rfl)

theorem ok_continuation {P : Program} {w : World} {K : PySem.W.Frag} {mg : Str → Option Value} {base : Heap} {f : Addr} {fd : FuncData} (F : Fun K "continuation" "continuation" s_continuation f fd) (T : Txt mg) (c_check_continuing : Cal P w K mg base CX0 10 "check_continuing" p_check_continuing (sp_check_continuing K)) (c_first_fit : Cal P w K mg base CX0 3 "first_fit" p_first_fit (sp_first_fit K)) (c_first_left : Cal P w K mg base CX0 2 "first_left" p_first_left (sp_first_left K)) (c_allowed_for_all : Cal P w K mg base CX0 2 "allowed_for_all" p_allowed_for_all (sp_allowed_for_all K)) :
    FnOk P w K mg base CX0 11 f fd p_continuation (sp_continuation K) := by
  refine F.ok sc_continuation (fun vs H Q E h => spD_len h (by rintro ds k d ⟨R, A, v, b, rfl, _⟩; rfl)) (fun cdv A outer s H vs Q E hr h => ⟨_, (pss_cons (ps_expr (pe_cal c_check_continuing (hr.mono (by decide)) rfl pass0 (pa_cons (pv 0) (pa_cons (pv 1) (pa_cons (pv 2) (pa_cons (pv 3) pa_nil))))))
      (pss_cons (ps_if (pt_cmpR op_notN (pe_cal c_first_left (hr.mono (by decide)) rfl pass0 (pa_cons (pv 2) (pa_cons (pv 1) pa_nil))) pe_non (nomark _)) (pss_one (ps_ret pe_non)) pss_nil)
      (pss_one (ps_ret (pe_cal c_first_fit (hr.mono (by decide)) rfl pass0 (pa_cons (pv 3) (pa_cons (pe_cal c_allowed_for_all (hr.mono (by decide)) rfl pass0 (pa_cons (pv 0) (pa_cons (pv 1) (pa_cons (pv 2) (pa_cons (pv 3) pa_nil))))) pa_nil))))))), run_pure (N := n_continuation) (fun ds k d hp => ?_) h⟩)
  obtain ⟨R, A, v, b, rfl, h, hA, rfl, rfl⟩ := hp
  have al := hA.len
  have v5 := h.v5
  have b20 := h.b20
  have fo := flat_op (o := conO R A v b)
  refine q_drop (d_call (k := .v) (d := .none) (a_cons (d_var rfl) (a_cons (d_var rfl) (a_cons (d_var rfl) (a_cons (d_var rfl) a_nil)))) ⟨R, A, v, b, rfl, h, hA, rfl, rfl⟩) ?_
  have lf := leftF_o (R := R) (b := b)
  cases q : lftO R b with
  | some t =>
    have e : conO R A v b = none := by unfold conO; rw [q]
    rw [q] at lf
    rw [e]
    refine q_if (a := true) (EvT.to (t_test (d_notN (d_call (k := .v) (d := leftF R b) (a_cons (d_var rfl) (a_cons (d_var rfl) a_nil)) ⟨R, v, b, rfl, h, rfl, by rw [Int.toNat_natCast]⟩))) (by rw [lf]; rfl)) (fun _ => q_ret d_non (.inr ⟨rfl, rfl⟩) (.inl rfl)) fun w => nomatch w
  | none =>
    have e : conO R A v b = ffO A (alwT R A v b) := by unfold conO; rw [q]
    rw [q] at lf
    rw [e]
    refine q_no (EvT.to (t_test (d_notN (d_call (k := .v) (d := leftF R b) (a_cons (d_var rfl) (a_cons (d_var rfl) a_nil)) ⟨R, v, b, rfl, h, rfl, by rw [Int.toNat_natCast]⟩))) (by rw [lf]; rfl)) ?_
    exact s_ret (d_call (k := .v) (d := opD (ffO A (alwT R A v b))) (a_cons (d_var rfl) (a_cons (d_call (k := .v) (d := .tuple ((alwT R A v b).map tupD)) (a_cons (d_var rfl) (a_cons (d_var rfl) (a_cons (d_var rfl) (a_cons (d_var rfl) a_nil)))) ⟨R, A, v, b, rfl, h, hA, rfl, by rw [Int.toNat_natCast]⟩) a_nil)) ⟨A, alwT R A v b, _, rfl, .inr rfl, alw_mns al v5 (by omega), by omega, by rw [bads_len, hA.sum], rfl, rfl⟩) (.inr ⟨rfl, flat_op⟩) (.inl rfl)

theorem ok_why_none {P : Program} {w : World} {K : PySem.W.Frag} {mg : Str → Option Value} {base : Heap} {f : Addr} {fd : FuncData} (F : Fun K "why_none" "why_none" s_why_none f fd) (T : Txt mg) (c_check_continuing : Cal P w K mg base CX0 10 "check_continuing" p_check_continuing (sp_check_continuing K)) (c_first_left : Cal P w K mg base CX0 2 "first_left" p_first_left (sp_first_left K)) (c_first_shortage : Cal P w K mg base CX0 3 "first_shortage" p_first_shortage (sp_first_shortage K)) (c_allowed_for_all : Cal P w K mg base CX0 2 "allowed_for_all" p_allowed_for_all (sp_allowed_for_all K)) :
    FnOk P w K mg base CX0 11 f fd p_why_none (sp_why_none K) := by
  refine F.ok sc_why_none (fun vs H Q E h => spD_len h (by rintro ds k d ⟨R, A, v, b, rfl, _⟩; rfl)) (fun cdv A outer s H vs Q E hr h => ⟨_, (pss_cons (ps_expr (pe_cal c_check_continuing (hr.mono (by decide)) rfl pass0 (pa_cons (pv 0) (pa_cons (pv 1) (pa_cons (pv 2) (pa_cons (pv 3) pa_nil))))))
      (pss_cons (ps_set (i := 4) sc_why_none.nd rfl (Or.inl rfl) (pe_cal c_first_left (hr.mono (by decide)) rfl pass0 (pa_cons (pv 2) (pa_cons (pv 1) pa_nil))))
      (pss_cons (ps_if (pt_cmpR op_notN (pv 4) pe_non (nomark _)) (pss_one (ps_ret (pe_op (k_add (K := K) rfl) (pe_tupN (pa_cons pe_str pa_nil)) (pv 4)))) pss_nil)
      (pss_cons (ps_set (i := 5) sc_why_none.nd rfl (Or.inl rfl) (pe_cal c_first_shortage (hr.mono (by decide)) rfl pass0 (pa_cons (pv 3) (pa_cons (pe_cal c_allowed_for_all (hr.mono (by decide)) rfl pass0 (pa_cons (pv 0) (pa_cons (pv 1) (pa_cons (pv 2) (pa_cons (pv 3) pa_nil))))) pa_nil))))
      (pss_one (ps_ret (pe_ifExp (pt_cmpR op_isN (pv 5) pe_non (nomark _)) pe_non (pe_op (k_add (K := K) rfl) (pe_tupN (pa_cons pe_str pa_nil)) (pv 5))))))))), run_pure (N := n_why_none) (fun ds k d hp => ?_) h⟩)
  obtain ⟨R, A, v, b, rfl, h, hA, rfl, rfl⟩ := hp
  have al := hA.len
  have v5 := h.v5
  have b20 := h.b20
  refine q_drop (d_call (k := .v) (d := .none) (a_cons (d_var rfl) (a_cons (d_var rfl) (a_cons (d_var rfl) (a_cons (d_var rfl) a_nil)))) ⟨R, A, v, b, rfl, h, hA, rfl, rfl⟩) ?_
  refine q_asg (d := leftF R b) (d_call (k := .v) (a_cons (d_var rfl) (a_cons (d_var rfl) a_nil)) ⟨R, v, b, rfl, h, rfl, by rw [Int.toNat_natCast]⟩) ?_
  have lf := leftF_o (R := R) (b := b)
  unfold whyD
  cases q : lftO R b with
  | some t =>
    rw [q] at lf
    rw [lf]
    refine q_if (a := true) (EvT.to (t_test (d_notN (d_var rfl))) rfl) (fun _ => q_ret (Ev.to (e_catT (d_tup (ds := [.str "needless"]) (a_consV d_str a_nil) (by simp)) (d_var rfl) (by simp [trD])) rfl) (.inr ⟨rfl, rfl⟩) (.inl rfl)) fun w => nomatch w
  | none =>
    rw [q] at lf
    rw [lf]
    refine q_no (EvT.to (t_test (d_notN (d_var rfl))) rfl) ?_
    refine q_asg (d := shD (alwT R A v b) (shS A (alwT R A v b))) (d_call (k := .v) (a_cons (d_var rfl) (a_cons (d_call (k := .v) (d := .tuple ((alwT R A v b).map tupD)) (a_cons (d_var rfl) (a_cons (d_var rfl) (a_cons (d_var rfl) (a_cons (d_var rfl) a_nil)))) ⟨R, A, v, b, rfl, h, hA, rfl, by rw [Int.toNat_natCast]⟩) a_nil)) ⟨A, alwT R A v b, _, rfl, .inr rfl, alw_mns al v5 (by omega), by omega, rfl, rfl⟩) ?_
    cases u : shS A (alwT R A v b) with
    | none =>
      exact s_ret (d_if (a := true) (EvT.to (t_test (d_isN (d_var rfl))) rfl) (fun _ => d_non) fun w => nomatch w) (.inr ⟨rfl, rfl⟩) (.inl rfl)
    | some s =>
      exact s_ret (d_if (a := false) (EvT.to (t_test (d_isN (d_var rfl))) rfl) (fun w => nomatch w) fun _ => Ev.to (e_catT (d_tup (ds := [.str "short"]) (a_consV d_str a_nil) (by simp)) (d_var rfl) (by simp)) rfl) (.inr ⟨rfl, by simp [flatD, flatAll, setD, flatAll_ints]⟩) (.inl rfl)

theorem ok_is_needless {P : Program} {w : World} {K : PySem.W.Frag} {mg : Str → Option Value} {base : Heap} {f : Addr} {fd : FuncData} (F : Fun K "is_needless" "is_needless" s_is_needless f fd) (T : Txt mg) (c_is_integer : Cal P w K mg base CX0 1 "is_integer" p_is_integer (sp_is_integer K)) (c_is_left : Cal P w K mg base CX0 1 "is_left" p_is_left (sp_is_left K)) :
    FnOk P w K mg base CX0 2 f fd p_is_needless (sp_is_needlessX K) := by
  refine F.ok sc_is_needless (fun vs H Q E h => spD_len h (by rintro ds k d ⟨R, v, b, rest, rfl, _⟩; rfl)) (fun cdv A outer s H vs Q E hr h => ⟨_, (pss_cons (ps_if (pt_cmpR (k_ne (K := K) rfl (rUnits hr)) (pe_callB (k_len (K := K) rfl) rfl T.b_len (by decide +kernel) (pa_cons (pv 2) pa_nil)) pe_int (nomark _)) (pss_one (ps_ret pe_bl)) pss_nil)
      (pss_cons (ps_asg (pv 2) (k_tupA (K := K) (n := 3) rfl rfl (pgs_cons (pg_name (i := 3) sc_is_needless.nd rfl (Or.inl rfl)) (pgs_cons (pg_name (i := 4) sc_is_needless.nd rfl (Or.inl rfl)) (pgs_cons (pg_name (i := 5) sc_is_needless.nd rfl (Or.inl rfl)) pgs_nil)))))
      (pss_cons (ps_if (PW.pt (pw_or (pt_not (pt_val (pe_cal c_is_integer (hr.mono (by decide)) rfl pass0 (pa_cons (pv 3) (pa_cons pe_int (pa_cons (pe_op op_sub (pe_callB (k_len (K := K) rfl) rfl T.b_len (by decide +kernel) (pa_cons (pv 1) pa_nil)) pe_int) pa_nil)))))) (pw_or1 (pt_not (pt_val (pe_cal c_is_integer (hr.mono (by decide)) rfl pass0 (pa_cons (pv 4) (pa_cons pe_int (pa_cons (pe_op op_sub (pe_callB (k_len (K := K) rfl) rfl T.b_len (by decide +kernel) (pa_cons (pv 1) pa_nil)) pe_int) pa_nil))))))))) (pss_one (ps_ret pe_bl)) pss_nil)
      (pss_one (ps_ret (pe_and (pe_cal c_is_integer (hr.mono (by decide)) rfl pass0 (pa_cons (pv 5) (pa_cons pe_int (pa_cons (pe_op op_sub (pv 0) pe_int) pa_nil)))) (pe_one (pe_cal c_is_left (hr.mono (by decide)) rfl pass0 (pa_cons (pe_ix (k_ix (K := K) rfl) (pv 1) (pv 3) (fun _ _ => rfl)) (pa_cons (pe_ix (k_ix (K := K) rfl) (pv 1) (pv 4) (fun _ _ => rfl)) (pa_cons (pv 5) pa_nil))))))))))), run_pure (N := n_is_needless) (fun ds k d hp => ?_) h⟩)
  obtain ⟨R, v, b, rest, rfl, h, rfl, rfl⟩ := hp
  by_cases hx : ∃ p q r, rest = [p, q, r]
  · obtain ⟨p, q, r, rfl⟩ := hx
    refine q_no (EvT.to (t_test (e_neI (d_lenT (d_var rfl)) d_int)) rfl) ?_
    refine q_unpV (fun d => d = .tuple [p, q, r]) rfl (d_var rfl).n ?_
    rintro d rfl
    refine ⟨_, _, _, rfl, rfl, g_cons g_name (g_cons g_name (g_cons g_name g_nil)), ?_⟩
    have e0 : nlB R b [p, q, r] = (isIntD p 0 ((R.length : Int) - 1) && (isIntD q 0 ((R.length : Int) - 1) && (isIntD r 0 ((b : Int) - 1) && leftB (gR R (natI p)) (gR R (natI q)) (natI r)))) := rfl
    rw [e0]
    refine q_if (t_or (a := !isIntD p 0 ((R.length : Int) - 1)) (b := !isIntD q 0 ((R.length : Int) - 1)) (t_not (t_B (d_call (k := .v) (a_cons (d_var rfl) (a_cons d_int (a_cons ((d_sub (d_lenT (d_var rfl)) d_int).to (by rw [List.length_map])) a_nil))) ⟨p, 0, (R.length : Int) - 1, rfl, rfl, rfl⟩))) fun _ => t_not (t_B (d_call (k := .v) (a_cons (d_var rfl) (a_cons d_int (a_cons ((d_sub (d_lenT (d_var rfl)) d_int).to (by rw [List.length_map])) a_nil))) ⟨q, 0, (R.length : Int) - 1, rfl, rfl, rfl⟩))) (fun z => ?_) fun z => q_next ?_
    · refine q_ret (d_bl.to ?_) (.inr ⟨rfl, rfl⟩) (.inl rfl)
      cases e1 : isIntD p 0 ((R.length : Int) - 1) with
      | false => rfl
      | true => cases e2 : isIntD q 0 ((R.length : Int) - 1) with
        | false => rfl
        | true => rw [e1, e2] at z; cases z
    · cases e1 : isIntD p 0 ((R.length : Int) - 1) with
      | false => rw [e1] at z; cases z
      | true =>
      cases e2 : isIntD q 0 ((R.length : Int) - 1) with
      | false => rw [e1, e2] at z; cases z
      | true =>
      obtain ⟨i, rfl, i0, i1⟩ := isInt_int e1
      obtain ⟨j, rfl, j0, j1⟩ := isInt_int e2
      obtain ⟨i, rfl⟩ := Int.eq_ofNat_of_zero_le i0
      obtain ⟨j, rfl⟩ := Int.eq_ofNat_of_zero_le j0
      have h1 : i < R.length := by omega
      have h2 : j < R.length := by omega
      refine s_ret ((d_andV (a := isIntD r 0 ((b : Int) - 1)) (b := leftB (gR R i) (gR R j) (natI r)) (d_call (k := .v) (a_cons (d_var rfl) (a_cons d_int (a_cons (d_sub (d_var rfl) d_int) a_nil))) ⟨r, 0, (b : Int) - 1, rfl, rfl, rfl⟩) fun e3 => ?_).to rfl) (.inr ⟨rfl, rfl⟩) (.inl rfl)
      obtain ⟨l, rfl, l0, l1⟩ := isInt_int e3
      obtain ⟨l, rfl⟩ := Int.eq_ofNat_of_zero_le l0
      exact d_call (k := .v) (d := .bool (leftB (gR R i) (gR R j) l)) (a_cons (e_ixT (d_var rfl) (d_var rfl) (at_pr h1) (fl_pr _)) (a_cons (e_ixT (d_var rfl) (d_var rfl) (at_pr h2) (fl_pr _)) (a_cons (d_var rfl) a_nil))) ⟨gR R i, gR R j, v, b, l, rfl, h.ok _ (gR_mem h1), h.ok _ (gR_mem h2), by omega, rfl, rfl⟩
  · have e : nlB R b rest = false := by
      unfold nlB
      split
      · exact absurd ⟨_, _, _, rfl⟩ hx
      · rfl
    rw [e]
    refine q_if (a := true) (EvT.to (t_test (e_neI (d_lenT (d_var rfl)) d_int)) ?_) (fun _ => q_ret d_bl (.inr ⟨rfl, rfl⟩) (.inl rfl)) fun z => by cases z
    rw [Bool.not_eq_true', decide_eq_false_iff_not]
    intro w
    match rest, w with
    | [p, q, r], _ => exact hx ⟨p, q, r, rfl⟩
    | [], w => cases w
    | [_], w => simp at w
    | [_, _], w => simp at w
    | _ :: _ :: _ :: _ :: _, w => simp at w; omega

theorem ok_accepts_none {P : Program} {w : World} {K : PySem.W.Frag} {mg : Str → Option Value} {base : Heap} {f : Addr} {fd : FuncData} (F : Fun K "accepts_none" "accepts_none" s_accepts_none f fd) (T : Txt mg) (c_check_continuing : Cal P w K mg base CX0 10 "check_continuing" p_check_continuing (sp_check_continuing K)) (c_is_shortage : Cal P w K mg base CX0 4 "is_shortage" p_is_shortage (sp_is_shortageX K)) (c_is_needless : Cal P w K mg base CX0 2 "is_needless" p_is_needless (sp_is_needlessX K)) (c_allowed_for_all : Cal P w K mg base CX0 2 "allowed_for_all" p_allowed_for_all (sp_allowed_for_all K)) :
    FnOk P w K mg base CX0 11 f fd p_accepts_none (sp_accepts_noneX K) := by
  refine F.ok sc_accepts_none (fun vs H Q E h => spD_len h (by rintro ds k d ⟨R, A, v, b, x, rfl, _⟩; rfl)) (fun cdv A outer s H vs Q E hr h => ⟨_, (pss_cons (ps_expr (pe_cal c_check_continuing (hr.mono (by decide)) rfl pass0 (pa_cons (pv 0) (pa_cons (pv 1) (pa_cons (pv 2) (pa_cons (pv 3) pa_nil))))))
      (pss_cons (ps_if (PW.pt (pw_or (pt_not (pt_val (pe_callB (k_isi (K := K) rfl) rfl T.b_isinstance (by decide +kernel) (pa_cons (pv 4) (pa_cons (pe_ty (n := "tuple") rfl T.b_tuple (by decide +kernel)) pa_nil))))) (pw_or1 (pt_cmpR (k_eq (K := K) rfl (rUnits hr)) (pe_callB (k_len (K := K) rfl) rfl T.b_len (by decide +kernel) (pa_cons (pv 4) pa_nil)) pe_int (nomark _))))) (pss_one (ps_ret pe_bl)) pss_nil)
      (pss_cons (ps_if (pt_cmpR (k_eq (K := K) rfl (rUnits hr)) (pe_ix (k_ix (K := K) rfl) (pv 4) pe_int (fun _ _ => rfl)) pe_str (nomark _)) (pss_one (ps_ret (pe_cal c_is_needless (hr.mono (by decide)) rfl pass0 (pa_cons (pv 1) (pa_cons (pv 2) (pa_cons (pe_slice (k_slT (K := K) rfl) (pv 4) (po_some pe_int) po_none) pa_nil)))))) pss_nil)
      (pss_cons (ps_if (pt_cmpR (k_ne (K := K) rfl (rUnits hr)) (pe_ix (k_ix (K := K) rfl) (pv 4) pe_int (fun _ _ => rfl)) pe_str (nomark _)) (pss_one (ps_ret pe_bl)) pss_nil)
      (pss_one (ps_ret (pe_cal c_is_shortage (hr.mono (by decide)) rfl pass0 (pa_cons (pv 3) (pa_cons (pe_cal c_allowed_for_all (hr.mono (by decide)) rfl pass0 (pa_cons (pv 0) (pa_cons (pv 1) (pa_cons (pv 2) (pa_cons (pv 3) pa_nil))))) (pa_cons (pe_slice (k_slT (K := K) rfl) (pv 4) (po_some pe_int) po_none) pa_nil)))))))))), run_pure (N := n_accepts_none) (fun ds k d hp => ?_) h⟩)
  obtain ⟨R, A, v, b, x, rfl, h, hA, hx, rfl, rfl⟩ := hp
  have al := hA.len
  have v5 := h.v5
  have b20 := h.b20
  refine q_drop (d_call (k := .v) (d := .none) (a_cons (d_var rfl) (a_cons (d_var rfl) (a_cons (d_var rfl) (a_cons (d_var rfl) a_nil)))) ⟨R, A, v, b, rfl, h, hA, rfl, rfl⟩) ?_
  have cutr : ∀ (s : PyData) (rest : List PyData), cutD (s :: rest) (some (1 : Int)) none = rest := fun s rest => by
    have := cutD_lo (ds := s :: rest) (t := 1) (by simp)
    exact this
  cases hx with
  | non => exact q_if (a := true) (EvT.to (t_or (a := true) (b := true) (EvT.to (t_not (t_B (e_isi (d_var rfl) (kit_tuple _)))) rfl) fun w => by cases w) rfl) (fun _ => q_ret d_bl (.inr ⟨rfl, rfl⟩) (.inl rfl)) fun z => by cases z
  | lst xs => exact q_if (a := true) (EvT.to (t_or (a := true) (b := true) (EvT.to (t_not (t_B (e_isi (d_var rfl) (kit_tuple _)))) rfl) fun w => by cases w) rfl) (fun _ => q_ret d_bl (.inr ⟨rfl, rfl⟩) (.inl rfl)) fun z => by cases z
  | nil => exact q_if (a := true) (EvT.to (t_or (a := false) (b := true) (EvT.to (t_not (t_B (e_isi (d_var rfl) rfl))) rfl) fun _ => EvT.to (t_test (e_eqI (d_lenT (d_var rfl)) d_int)) rfl) rfl) (fun _ => q_ret d_bl (.inr ⟨rfl, rfl⟩) (.inl rfl)) fun z => by cases z
  | @ned rest hl hs =>
    rw [acc_ned]
    refine q_no (EvT.to (t_or (a := false) (b := false) (EvT.to (t_not (t_B (e_isi (d_var rfl) rfl))) rfl) fun _ => EvT.to (t_test (e_eqI (d_lenT (d_var rfl)) d_int)) (decide_eq_false (by simp; omega))) rfl) ?_
    refine q_if (a := true) (EvT.to (t_test (e_eqS (x := .str sNeedless) (v := .str sNeedless) (a := true) (e_ixT (d_var rfl) d_int (atI_nat (j := 0) rfl) rfl) d_str rfl rfl rfl (by decide +kernel))) rfl) (fun _ => ?_) fun w => nomatch w
    exact q_ret (d_call (k := .v) (d := .bool (nlB R b rest)) (a_cons (d_var rfl) (a_cons (d_var rfl) (a_cons (Ev.to (e_sl (d_var rfl) (o_some d_int) o_none) (y := .tuple rest) (by rw [cutr])) a_nil))) ⟨R, v, b, rest, rfl, h, rfl, rfl⟩) (.inr ⟨rfl, rfl⟩) (.inl rfl)
  | @sho rest hl hs =>
    rw [acc_sho]
    refine q_no (EvT.to (t_or (a := false) (b := false) (EvT.to (t_not (t_B (e_isi (d_var rfl) rfl))) rfl) fun _ => EvT.to (t_test (e_eqI (d_lenT (d_var rfl)) d_int)) (decide_eq_false (by simp; omega))) rfl) ?_
    refine q_no (EvT.to (t_test (e_eqS (x := .str sShort) (v := .str sShort) (a := false) (e_ixT (d_var rfl) d_int (atI_nat (j := 0) rfl) rfl) d_str rfl rfl rfl (by decide +kernel))) rfl) ?_
    refine q_no (EvT.to (t_test (e_neS (x := .str sShort) (v := .str sShort) (a := false) (e_ixT (d_var rfl) d_int (atI_nat (j := 0) rfl) rfl) d_str rfl rfl rfl (by decide +kernel))) rfl) ?_
    exact s_ret (d_call (k := .v) (d := .bool (shB A (alwT R A v b) (.tuple rest))) (a_cons (d_var rfl) (a_cons (d_call (k := .v) (d := .tuple ((alwT R A v b).map tupD)) (a_cons (d_var rfl) (a_cons (d_var rfl) (a_cons (d_var rfl) (a_cons (d_var rfl) a_nil)))) ⟨R, A, v, b, rfl, h, hA, rfl, by rw [Int.toNat_natCast]⟩) (a_cons (Ev.to (e_sl (d_var rfl) (o_some d_int) o_none) (y := .tuple rest) (by rw [cutr])) a_nil))) ⟨A, alwT R A v b, _, .tuple rest, rfl, .inr rfl, alw_mns al v5 (by omega), by omega, fun p q e => (by cases e; exact ⟨hs p (by simp), hs q (by simp)⟩), fun es e => (by cases e; omega), rfl, rfl⟩) (.inr ⟨rfl, rfl⟩) (.inl rfl)
  | @nam rest hl =>
    rw [acc_nam]
    refine q_no (EvT.to (t_or (a := false) (b := false) (EvT.to (t_not (t_B (e_isi (d_var rfl) rfl))) rfl) fun _ => EvT.to (t_test (e_eqI (d_lenT (d_var rfl)) d_int)) (decide_eq_false (by simp; omega))) rfl) ?_
    refine q_no (EvT.to (t_test (e_eqS (x := .str sNone) (v := .str sNone) (a := false) (e_ixT (d_var rfl) d_int (atI_nat (j := 0) rfl) rfl) d_str rfl rfl rfl (by decide +kernel))) rfl) ?_
    exact q_if (a := true) (EvT.to (t_test (e_neS (x := .str sNone) (v := .str sNone) (a := true) (e_ixT (d_var rfl) d_int (atI_nat (j := 0) rfl) rfl) d_str rfl rfl rfl (by decide +kernel))) rfl) (fun _ => q_ret d_bl (.inr ⟨rfl, rfl⟩) (.inl rfl)) fun z => by cases z

theorem ok__law_stream {P : Program} {w : World} {K : PySem.W.Frag} {mg : Str → Option Value} {base : Heap} {f : Addr} {fd : FuncData} (F : Fun K "_law_stream" "_law_stream" s__law_stream f fd) (T : Txt mg) :
    FnOk P w K mg base CX0 1 f fd p__law_stream (sp__law_stream K) := by
  refine F.ok sc__law_stream (fun vs H Q E h => by obtain ⟨a, ns, rfl, _⟩ := h; rfl) (fun cdv A outer s H vs Q E hr h => ⟨_, (pss_one (ps_ret (pe_lst (pa_cons (pe_callTy (k_list (K := K) rfl) rfl T.b_list (by decide +kernel) (pa_cons (pv 0) pa_nil)) (pa_cons pe_int (pa_cons pe_int pa_nil)))))), ?_⟩)
  obtain ⟨a, ns, rfl, hS, hl, k⟩ := h
  refine ⟨_, rfl, a, _, rfl, .inl hS, fun l hl => ⟨(by show 3 ≤ sizeLine; decide), fun st hst => ?_⟩⟩
  have nls : l ≠ st := fun z => by rw [z, upd_same] at hst; cases hst
  have hs0 : H st = none := by rw [← upd_ne (H := H) (o := .lst (ns.map V.int)) nls.symm]; exact hst
  refine k st l _ (fun b o z => ?_) hs0 ⟨ns, 0, 0, upd_same, by rw [upd_ne nls, upd_same], nls, by decide⟩
  rw [upd_ne (ne_of_none z hs0), upd_ne (ne_of_none z hl)]
  exact z

theorem ok__law_next {P : Program} {w : World} {K : PySem.W.Frag} {mg : Str → Option Value} {base : Heap} {f : Addr} {fd : FuncData} (F : Fun K "_law_next" "_law_next" s__law_next f fd) (T : Txt mg) :
    FnOk P w K mg base CX0 1 f fd p__law_next (sp__law_next K) := by
  refine F.ok sc__law_next (fun vs H Q E h => spS_len h (by rintro ds k P ⟨m, rfl, _⟩; rfl)) (fun cdv A outer s H vs Q E hr h => ⟨_, (Evl.pss_cut (ps_if (pt_cmpR (k_eq (K := K) rfl (rUnits hr)) (pe_ix (k_ix (K := K) rfl) (pv 0) pe_int (fun _ _ => rfl)) pe_int (nomark _)) (pss_cons (ps_set (i := 2) sc__law_next.nd rfl (Or.inl rfl) (pe_ix (k_ix (K := K) rfl) (pv 0) pe_int (fun _ _ => rfl)))
      (pss_cons (ps_set (i := 3) sc__law_next.nd rfl (Or.inl rfl) (pe_op (k_add (K := K) rfl) pe_int (pv 2)))
      (Evl.pss_cut (ps_if (pt_cmpR op_lt (pv 2) (pe_callB (k_len (K := K) rfl) rfl T.b_len (by decide +kernel) (pa_cons (pe_ix (k_ix (K := K) rfl) (pv 0) pe_int (fun _ _ => rfl)) pa_nil)) (nomark _)) (pss_one (ps_set (i := 3) sc__law_next.nd rfl (Or.inl rfl) (pe_callB call_abs rfl T.b_abs (by decide +kernel) (pa_cons (pe_ix (k_ix (K := K) rfl) (pe_ix (k_ix (K := K) rfl) (pv 0) pe_int (fun _ _ => rfl)) (pv 2) (fun _ _ => rfl)) pa_nil)))) pss_nil)
      (Evl.pss_cut (ps_if (pt_cmpR op_lt (pv 3) (pe_op op_pow pe_int pe_int) (nomark _)) (pss_cons (ps_set (i := 3) sc__law_next.nd rfl (Or.inl rfl) (pe_op op_mod (pe_callTy call_int1 rfl T.b_int (by decide +kernel) (pa_cons (pe_op (k_add (K := K) rfl) (pe_op (k_add (K := K) rfl) (pe_op op_mulA (pv 3) pe_int) (pe_op op_mulA (pv 2) pe_int)) pe_int) pa_nil)) pe_int))
      (pss_one (ps_set (i := 3) sc__law_next.nd rfl (Or.inl rfl) (pe_op (k_add (K := K) rfl) (pe_op op_mulA (pe_op op_mod (pe_callTy call_int1 rfl T.b_int (by decide +kernel) (pa_cons (pe_op (k_add (K := K) rfl) (pe_op op_mulA (pv 3) pe_int) pe_int) pa_nil)) pe_int) pe_int) (pv 3))))) pss_nil)
      (pss_cons (ps_asg (pv 3) (pg_sub (pv 0) pe_int set_list))
      (pss_one (ps_asg (pe_op (k_add (K := K) rfl) (pv 2) pe_int) (pg_sub (pv 0) pe_int set_list)))))))) pss_nil)
      (pss_cons (ps_set (i := 4) sc__law_next.nd rfl (Or.inl rfl) (pe_op op_mod (pe_callTy call_int1 rfl T.b_int (by decide +kernel) (pa_cons (pe_ix (k_ix (K := K) rfl) (pv 0) pe_int (fun _ _ => rfl)) pa_nil)) (pv 1)))
      (pss_cons (ps_asg (pe_op op_fdiv (pe_ix (k_ix (K := K) rfl) (pv 0) pe_int (fun _ _ => rfl)) (pv 1)) (pg_sub (pv 0) pe_int set_list))
      (pss_one (ps_ret (pv 4)))))), ?_⟩)
  obtain ⟨st, l, vs', ds, kd, P', rfl, hst, hb, ⟨m, rfl, hm, hm2, rfl, rfl⟩, hq⟩ := h
  obtain ⟨mv, rfl, bm⟩ := hb.one
  have em := bm.int'
  subst em
  obtain ⟨ns, x, k, h1, h2, h3, h4⟩ := hst
  -- behind the first if the stream's cell is any int
  refine ⟨fun σ H1 => ∃ (a b c : Option V) (x k : Int), σ = [some (.ref st), some (.int m), a, b, c] ∧ H1 st = some (.lst [.ref l, .int x, .int k]) ∧ H1 l = some (.lst (ns.map V.int)) ∧ 0 ≤ k ∧ ∀ a o, a ≠ st → H a = some o → H1 a = some o, ?_, ?_⟩
  · refine ⟨_, rfl, .inl ⟨st, _, 1, .int x, rfl, rfl, .inl (.inl h1), rfl, .inl ⟨rfl, _, rfl, ?_⟩⟩⟩
    refine ite2 (fun _ => ?_) (fun _ => ⟨_, _, _, x, k, rfl, h1, h2, h4, fun _ _ _ z => z⟩)
    refine ⟨_, rfl, .inl ⟨st, _, 2, .int k, rfl, rfl, .inl (.inl h1), rfl, ?_⟩⟩
    refine ⟨_, rfl, .inl ⟨7, k, rfl, rfl, ?_⟩⟩
    refine ⟨fun σ H1 => H1 = H ∧ ∃ z : Int, σ = [some (.ref st), some (.int m), some (.int k), some (.int z), none], ?_, ?_⟩
    · refine ⟨_, rfl, _, rfl, .inl ⟨st, _, 0, .ref l, rfl, rfl, .inl (.inl h1), rfl, ⟨l, _, rfl, .inl (.inl (.inl h2)), k, _, rfl, rfl, _, rfl, ?_⟩⟩⟩
      refine ite2 (fun hk => ?_) (fun _ => ⟨rfl, _, rfl⟩)
      have hk' : k < (ns.length : Int) := by simpa using of_decide_eq_true hk
      obtain ⟨j, rfl⟩ := Int.eq_ofNat_of_zero_le h4
      have hj : j < ns.length := by omega
      have hat : atI (ns.map V.int) (j : Int) = some (.int ns[j]) := atI_nat (by simp [hj])
      exact ⟨_, rfl, .inl ⟨st, _, 0, .ref l, rfl, rfl, .inl (.inl h1), rfl, _, rfl, .inl ⟨l, _, (j : Int), _, rfl, rfl, .inl (.inl h2), hat, _, rfl, rfl, _, rfl⟩⟩⟩
    · rintro σ H1 ⟨rfl, z, rfl⟩
      refine ⟨fun σ H1' => H1' = H1 ∧ ∃ z : Int, σ = [some (.ref st), some (.int m), some (.int k), some (.int z), none], ?_, ?_⟩
      · refine ⟨_, rfl, 10, 18, rfl, rfl, ⟨by decide, by decide, by decide⟩, z, _, rfl, rfl, _, rfl, ?_⟩
        refine ite2 (fun _ => ?_) (fun _ => ⟨rfl, _, rfl⟩)
        refine ⟨_, rfl, .inl ⟨z, 48271, rfl, rfl, .inr ⟨by decide, by decide⟩, _, rfl, .inl ⟨k, 69621, rfl, rfl, .inr ⟨by decide, by decide⟩, .inl ⟨_, _, rfl, rfl, .inl ⟨_, _, rfl, rfl, .inl ⟨_, rfl, _, _, rfl, rfl, (by show (0 : Int) < 2147483647; decide), ?_⟩⟩⟩⟩⟩⟩
        refine ⟨_, rfl, .inl ⟨_, 16807, rfl, rfl, .inr ⟨by decide, by decide⟩, .inl ⟨_, _, rfl, rfl, .inl ⟨_, rfl, _, _, rfl, rfl, (by show (0 : Int) < 2147483647; decide), .inl ⟨_, 65537, rfl, rfl, .inr ⟨by decide, by decide⟩, _, rfl, .inl ⟨_, _, rfl, rfl, rfl, _, rfl⟩⟩⟩⟩⟩⟩
      · rintro σ H1' ⟨rfl, z, rfl⟩
        refine ⟨_, rfl, _, rfl, st, _, 1, 1, rfl, rfl, h1, rfl, ?_⟩
        refine ⟨_, rfl, .inl ⟨k, 1, rfl, rfl, _, rfl, st, _, 2, 2, rfl, rfl, upd_same, rfl, ?_⟩⟩
        refine ⟨_, _, _, z, k + 1, rfl, upd_same, by rw [upd_ne h3, upd_ne h3]; exact h2, by omega, fun a o na ha => by rw [upd_ne na, upd_ne na]; exact ha⟩
  · rintro σ H1 ⟨a, b, c, x, k, rfl, g1, g2, g4, g5⟩
    refine ⟨_, rfl, .inl ⟨st, _, 1, .int x, rfl, rfl, .inl (.inl g1), rfl, .inl ⟨x, rfl, _, rfl, x, m, rfl, rfl, hm, ?_⟩⟩⟩
    refine ⟨_, rfl, .inl ⟨st, _, 1, .int x, rfl, rfl, .inl (.inl g1), rfl, _, rfl, x, m, rfl, rfl, ⟨hm, hm2⟩, _, rfl, st, _, 1, 1, rfl, rfl, g1, rfl, ?_⟩⟩
    refine ⟨_, rfl, hq _ (.int (x % m)) _ ⟨x % m, rfl, Int.emod_nonneg _ (by omega), Int.emod_lt_of_pos _ hm⟩ ⟨fun a o na ha => ?_, fun _ st' l' e => ?_⟩ ⟨rfl, .int _⟩⟩
    · have : a ≠ st := na st l rfl
      rw [upd_ne this]
      exact g5 a o this ha
    · cases e
      exact Str1.put g2 h3 g4

theorem ok__law_ask {P : Program} {w : World} {K : PySem.W.Frag} {mg : Str → Option Value} {base : Heap} {f : Addr} {fd : FuncData} (F : Fun K "_law_ask" "_law_ask" s__law_ask f fd) (T : Txt mg) (c_accepts_none : Cal P w K mg base CX0 11 "accepts_none" p_accepts_none (sp_accepts_noneX K)) (c_missing : Cal P w K mg base CX0 10 "missing" p_missing (sp_missing K)) (c_needless_leave : Cal P w K mg base CX0 10 "needless_leave" p_needless_leave (sp_needless_leave K)) (c_lists_of_rule : Cal P w K mg base CX0 11 "lists_of_rule" p_lists_of_rule (sp_lists_of_rule K)) (c_serves_rule : Cal P w K mg base CX0 10 "serves_rule" p_serves_rule (sp_serves_ruleX K)) (c_most_waste : Cal P w K mg base CX0 10 "most_waste" p_most_waste (sp_most_waste K)) (c_leaves : Cal P w K mg base CX0 10 "leaves" p_leaves (sp_leaves K)) (c_allowed_variants : Cal P w K mg base CX0 11 "allowed_variants" p_allowed_variants (sp_allowed_variants K)) (c_continuation : Cal P w K mg base CX0 11 "continuation" p_continuation (sp_continuation K)) (c_why_none : Cal P w K mg base CX0 11 "why_none" p_why_none (sp_why_none K)) :
    FnOk P w K mg base CX0 12 f fd p__law_ask (sp__law_ask61 K) := by
  refine F.ok sc__law_ask (fun vs H Q E h => spD_len h (by rintro ds k d ⟨w, row, rfl, _⟩; rfl)) (fun cdv A outer s H vs Q E hr h => ⟨_, (pss_cons (ps_if (pt_cmpR (k_eq (K := K) rfl (rUnits hr)) (pv 0) pe_int (nomark _)) (pss_one (ps_ret (pe_cal c_missing (hr.mono (by decide)) rfl pass0 (pa_cons (pe_ix (k_ix (K := K) rfl) (pv 1) pe_int (fun _ _ => rfl)) (pa_cons (pe_ix (k_ix (K := K) rfl) (pv 1) pe_int (fun _ _ => rfl)) (pa_cons (pe_ix (k_ix (K := K) rfl) (pv 1) pe_int (fun _ _ => rfl)) pa_nil)))))) pss_nil)
      (pss_cons (ps_if (pt_cmpR (k_eq (K := K) rfl (rUnits hr)) (pv 0) pe_int (nomark _)) (pss_one (ps_ret (pe_cal c_needless_leave (hr.mono (by decide)) rfl pass0 (pa_cons (pe_ix (k_ix (K := K) rfl) (pv 1) pe_int (fun _ _ => rfl)) (pa_cons (pe_ix (k_ix (K := K) rfl) (pv 1) pe_int (fun _ _ => rfl)) (pa_cons (pe_ix (k_ix (K := K) rfl) (pv 1) pe_int (fun _ _ => rfl)) pa_nil)))))) pss_nil)
      (pss_cons (ps_if (pt_cmpR (k_eq (K := K) rfl (rUnits hr)) (pv 0) pe_int (nomark _)) (pss_one (ps_ret (pe_cal c_lists_of_rule (hr.mono (by decide)) rfl pass0 (pa_cons (pe_ix (k_ix (K := K) rfl) (pv 1) pe_int (fun _ _ => rfl)) (pa_cons (pe_ix (k_ix (K := K) rfl) (pv 1) pe_int (fun _ _ => rfl)) (pa_cons (pe_ix (k_ix (K := K) rfl) (pv 1) pe_int (fun _ _ => rfl)) pa_nil)))))) pss_nil)
      (pss_cons (ps_if (pt_cmpR (k_eq (K := K) rfl (rUnits hr)) (pv 0) pe_int (nomark _)) (pss_one (ps_ret (pe_cal c_serves_rule (hr.mono (by decide)) rfl pass0 (pa_cons (pe_ix (k_ix (K := K) rfl) (pv 1) pe_int (fun _ _ => rfl)) (pa_cons (pe_ix (k_ix (K := K) rfl) (pv 1) pe_int (fun _ _ => rfl)) (pa_cons (pe_ix (k_ix (K := K) rfl) (pv 1) pe_int (fun _ _ => rfl)) (pa_cons pe_non pa_nil))))))) pss_nil)
      (pss_cons (ps_if (pt_cmpR (k_eq (K := K) rfl (rUnits hr)) (pv 0) pe_int (nomark _)) (pss_one (ps_ret (pe_cal c_most_waste (hr.mono (by decide)) rfl pass0 (pa_cons (pe_ix (k_ix (K := K) rfl) (pv 1) pe_int (fun _ _ => rfl)) (pa_cons (pe_ix (k_ix (K := K) rfl) (pv 1) pe_int (fun _ _ => rfl)) (pa_cons (pe_ix (k_ix (K := K) rfl) (pv 1) pe_int (fun _ _ => rfl)) pa_nil)))))) pss_nil)
      (pss_cons (ps_if (pt_cmpR (k_eq (K := K) rfl (rUnits hr)) (pv 0) pe_int (nomark _)) (pss_one (ps_ret (pe_cal c_leaves (hr.mono (by decide)) rfl pass0 (pa_cons (pe_ix (k_ix (K := K) rfl) (pv 1) pe_int (fun _ _ => rfl)) (pa_cons (pe_ix (k_ix (K := K) rfl) (pv 1) pe_int (fun _ _ => rfl)) (pa_cons (pe_ix (k_ix (K := K) rfl) (pv 1) pe_int (fun _ _ => rfl)) (pa_cons (pe_ix (k_ix (K := K) rfl) (pv 1) pe_int (fun _ _ => rfl)) (pa_cons (pe_ix (k_ix (K := K) rfl) (pv 1) pe_int (fun _ _ => rfl)) (pa_cons (pe_ix (k_ix (K := K) rfl) (pv 1) pe_int (fun _ _ => rfl)) pa_nil))))))))) pss_nil)
      (pss_cons (ps_if (pt_cmpR (k_eq (K := K) rfl (rUnits hr)) (pv 0) pe_int (nomark _)) (pss_one (ps_ret (pe_cal c_allowed_variants (hr.mono (by decide)) rfl pass0 (pa_cons (pe_ix (k_ix (K := K) rfl) (pv 1) pe_int (fun _ _ => rfl)) (pa_cons (pe_ix (k_ix (K := K) rfl) (pv 1) pe_int (fun _ _ => rfl)) (pa_cons (pe_ix (k_ix (K := K) rfl) (pv 1) pe_int (fun _ _ => rfl)) (pa_cons (pe_ix (k_ix (K := K) rfl) (pv 1) pe_int (fun _ _ => rfl)) pa_nil))))))) pss_nil)
      (pss_cons (ps_if (pt_cmpR (k_eq (K := K) rfl (rUnits hr)) (pv 0) pe_int (nomark _)) (pss_one (ps_ret (pe_cal c_continuation (hr.mono (by decide)) rfl pass0 (pa_cons (pe_ix (k_ix (K := K) rfl) (pv 1) pe_int (fun _ _ => rfl)) (pa_cons (pe_ix (k_ix (K := K) rfl) (pv 1) pe_int (fun _ _ => rfl)) (pa_cons (pe_ix (k_ix (K := K) rfl) (pv 1) pe_int (fun _ _ => rfl)) (pa_cons (pe_ix (k_ix (K := K) rfl) (pv 1) pe_int (fun _ _ => rfl)) pa_nil))))))) pss_nil)
      (pss_cons (ps_if (pt_cmpR (k_eq (K := K) rfl (rUnits hr)) (pv 0) pe_int (nomark _)) (pss_one (ps_ret (pe_cal c_why_none (hr.mono (by decide)) rfl pass0 (pa_cons (pe_ix (k_ix (K := K) rfl) (pv 1) pe_int (fun _ _ => rfl)) (pa_cons (pe_ix (k_ix (K := K) rfl) (pv 1) pe_int (fun _ _ => rfl)) (pa_cons (pe_ix (k_ix (K := K) rfl) (pv 1) pe_int (fun _ _ => rfl)) (pa_cons (pe_ix (k_ix (K := K) rfl) (pv 1) pe_int (fun _ _ => rfl)) pa_nil))))))) pss_nil)
      (pss_one (ps_ret (pe_cal c_accepts_none (hr.mono (by decide)) rfl pass0 (pa_cons (pe_ix (k_ix (K := K) rfl) (pv 1) pe_int (fun _ _ => rfl)) (pa_cons (pe_ix (k_ix (K := K) rfl) (pv 1) pe_int (fun _ _ => rfl)) (pa_cons (pe_ix (k_ix (K := K) rfl) (pv 1) pe_int (fun _ _ => rfl)) (pa_cons (pe_ix (k_ix (K := K) rfl) (pv 1) pe_int (fun _ _ => rfl)) (pa_cons pe_non pa_nil))))))))))))))))), run_pure (N := n__law_ask) (fun ds k d hp => ?_) h⟩)
  obtain ⟨w, row, rfl, ⟨R, v, b, h, hc⟩, rfl⟩ := hp
  have ix : ∀ (j : Nat) (z : PyData), row[j]? = some z → Ev (pc K) (tOp (rIx K) (tVar 1) (tC (.int (j : Int)))) (argsG [.int (w : Int), .list row] n__law_ask.length) .v z := fun j z hz => e_ixLv (d_var rfl) d_int (atI_nat hz)
  have i0 := ix 0
  have i1 := ix 1
  have i2 := ix 2
  have i3 := ix 3
  have i4 := ix 4
  have i5 := ix 5
  clear ix
  have evx : EvX .none := .non
  rcases hc with ⟨hw, rfl, hd⟩ | ⟨rfl, i, j, l, rfl, hi, hj, hl, rfl⟩ | ⟨h6, h9, A, rfl, hA, hd⟩
  · rcases hd with ⟨rfl, rfl⟩ | ⟨rfl, rfl⟩ | ⟨rfl, rfl⟩ | ⟨rfl, rfl⟩ | ⟨rfl, rfl⟩
    · exact (q_if (a := true) (EvT.to (t_test (e_eqI (d_var rfl) d_int)) rfl) (fun _ => (s_retC (a_cons (i0 _ rfl) (a_cons (i1 _ rfl) (a_cons (i2 _ rfl) a_nil))) ⟨R, v, b, rfl, h, rfl, rfl⟩ (.inl rfl))) fun z => nomatch z)
    · exact (q_if (a := false) (EvT.to (t_test (e_eqI (d_var rfl) d_int)) rfl) (fun z => nomatch z) fun _ => q_next (q_if (a := true) (EvT.to (t_test (e_eqI (d_var rfl) d_int)) rfl) (fun _ => (s_retC (a_cons (i0 _ rfl) (a_cons (i1 _ rfl) (a_cons (i2 _ rfl) a_nil))) ⟨R, (v : Int), (b : Int), rfl, h, rfl, by rw [Int.toNat_natCast]⟩ (.inl rfl))) fun z => nomatch z))
    · exact (q_if (a := false) (EvT.to (t_test (e_eqI (d_var rfl) d_int)) rfl) (fun z => nomatch z) fun _ => q_next (q_if (a := false) (EvT.to (t_test (e_eqI (d_var rfl) d_int)) rfl) (fun z => nomatch z) fun _ => q_next (q_if (a := true) (EvT.to (t_test (e_eqI (d_var rfl) d_int)) rfl) (fun _ => (s_retC (a_cons (i0 _ rfl) (a_cons (i1 _ rfl) (a_cons (i2 _ rfl) a_nil))) ⟨R, (v : Int), (b : Int), rfl, h, rfl, rfl⟩ (.inl rfl))) fun z => nomatch z)))
    · exact (q_if (a := false) (EvT.to (t_test (e_eqI (d_var rfl) d_int)) rfl) (fun z => nomatch z) fun _ => q_next (q_if (a := false) (EvT.to (t_test (e_eqI (d_var rfl) d_int)) rfl) (fun z => nomatch z) fun _ => q_next (q_if (a := false) (EvT.to (t_test (e_eqI (d_var rfl) d_int)) rfl) (fun z => nomatch z) fun _ => q_next (q_if (a := true) (EvT.to (t_test (e_eqI (d_var rfl) d_int)) rfl) (fun _ => (s_retC (a_cons (i0 _ rfl) (a_cons (i1 _ rfl) (a_cons (i2 _ rfl) (a_cons d_non a_nil)))) ⟨R, (v : Int), (b : Int), .none, rfl, h, sml_no (fun es e => by cases e), rfl, rfl⟩ (.inl rfl))) fun z => nomatch z))))
    · exact (q_if (a := false) (EvT.to (t_test (e_eqI (d_var rfl) d_int)) rfl) (fun z => nomatch z) fun _ => q_next (q_if (a := false) (EvT.to (t_test (e_eqI (d_var rfl) d_int)) rfl) (fun z => nomatch z) fun _ => q_next (q_if (a := false) (EvT.to (t_test (e_eqI (d_var rfl) d_int)) rfl) (fun z => nomatch z) fun _ => q_next (q_if (a := false) (EvT.to (t_test (e_eqI (d_var rfl) d_int)) rfl) (fun z => nomatch z) fun _ => q_next (q_if (a := true) (EvT.to (t_test (e_eqI (d_var rfl) d_int)) rfl) (fun _ => (s_retC (a_cons (i0 _ rfl) (a_cons (i1 _ rfl) (a_cons (i2 _ rfl) a_nil))) ⟨R, (v : Int), (b : Int), rfl, h, rfl, rfl⟩ (.inl rfl))) fun z => nomatch z)))))
  · exact (q_if (a := false) (EvT.to (t_test (e_eqI (d_var rfl) d_int)) rfl) (fun z => nomatch z) fun _ => q_next (q_if (a := false) (EvT.to (t_test (e_eqI (d_var rfl) d_int)) rfl) (fun z => nomatch z) fun _ => q_next (q_if (a := false) (EvT.to (t_test (e_eqI (d_var rfl) d_int)) rfl) (fun z => nomatch z) fun _ => q_next (q_if (a := false) (EvT.to (t_test (e_eqI (d_var rfl) d_int)) rfl) (fun z => nomatch z) fun _ => q_next (q_if (a := false) (EvT.to (t_test (e_eqI (d_var rfl) d_int)) rfl) (fun z => nomatch z) fun _ => q_next (q_if (a := true) (EvT.to (t_test (e_eqI (d_var rfl) d_int)) rfl) (fun _ => (s_retC (a_cons (i0 _ rfl) (a_cons (i1 _ rfl) (a_cons (i2 _ rfl) (a_cons (i3 _ rfl) (a_cons (i4 _ rfl) (a_cons (i5 _ rfl) a_nil)))))) ⟨R, (v : Int), (b : Int), i, j, l, rfl, h, hi, hj, by omega, rfl, rfl⟩ (.inl rfl))) fun z => nomatch z))))))
  · rcases hd with ⟨rfl, rfl⟩ | ⟨rfl, rfl⟩ | ⟨rfl, rfl⟩ | ⟨rfl, rfl⟩
    · exact (q_if (a := false) (EvT.to (t_test (e_eqI (d_var rfl) d_int)) rfl) (fun z => nomatch z) fun _ => q_next (q_if (a := false) (EvT.to (t_test (e_eqI (d_var rfl) d_int)) rfl) (fun z => nomatch z) fun _ => q_next (q_if (a := false) (EvT.to (t_test (e_eqI (d_var rfl) d_int)) rfl) (fun z => nomatch z) fun _ => q_next (q_if (a := false) (EvT.to (t_test (e_eqI (d_var rfl) d_int)) rfl) (fun z => nomatch z) fun _ => q_next (q_if (a := false) (EvT.to (t_test (e_eqI (d_var rfl) d_int)) rfl) (fun z => nomatch z) fun _ => q_next (q_if (a := false) (EvT.to (t_test (e_eqI (d_var rfl) d_int)) rfl) (fun z => nomatch z) fun _ => q_next (q_if (a := true) (EvT.to (t_test (e_eqI (d_var rfl) d_int)) rfl) (fun _ => (s_retC (a_cons (i0 _ rfl) (a_cons (i1 _ rfl) (a_cons (i2 _ rfl) (a_cons (i3 _ rfl) a_nil)))) ⟨R, A, (v : Int), (b : Int), rfl, h, hA, rfl, by rw [Int.toNat_natCast]⟩ (.inl rfl))) fun z => nomatch z)))))))
    · exact (q_if (a := false) (EvT.to (t_test (e_eqI (d_var rfl) d_int)) rfl) (fun z => nomatch z) fun _ => q_next (q_if (a := false) (EvT.to (t_test (e_eqI (d_var rfl) d_int)) rfl) (fun z => nomatch z) fun _ => q_next (q_if (a := false) (EvT.to (t_test (e_eqI (d_var rfl) d_int)) rfl) (fun z => nomatch z) fun _ => q_next (q_if (a := false) (EvT.to (t_test (e_eqI (d_var rfl) d_int)) rfl) (fun z => nomatch z) fun _ => q_next (q_if (a := false) (EvT.to (t_test (e_eqI (d_var rfl) d_int)) rfl) (fun z => nomatch z) fun _ => q_next (q_if (a := false) (EvT.to (t_test (e_eqI (d_var rfl) d_int)) rfl) (fun z => nomatch z) fun _ => q_next (q_if (a := false) (EvT.to (t_test (e_eqI (d_var rfl) d_int)) rfl) (fun z => nomatch z) fun _ => q_next (q_if (a := true) (EvT.to (t_test (e_eqI (d_var rfl) d_int)) rfl) (fun _ => (s_retC (a_cons (i0 _ rfl) (a_cons (i1 _ rfl) (a_cons (i2 _ rfl) (a_cons (i3 _ rfl) a_nil)))) ⟨R, A, (v : Int), b, rfl, h, hA, rfl, rfl⟩ (.inl rfl))) fun z => nomatch z))))))))
    · exact (q_if (a := false) (EvT.to (t_test (e_eqI (d_var rfl) d_int)) rfl) (fun z => nomatch z) fun _ => q_next (q_if (a := false) (EvT.to (t_test (e_eqI (d_var rfl) d_int)) rfl) (fun z => nomatch z) fun _ => q_next (q_if (a := false) (EvT.to (t_test (e_eqI (d_var rfl) d_int)) rfl) (fun z => nomatch z) fun _ => q_next (q_if (a := false) (EvT.to (t_test (e_eqI (d_var rfl) d_int)) rfl) (fun z => nomatch z) fun _ => q_next (q_if (a := false) (EvT.to (t_test (e_eqI (d_var rfl) d_int)) rfl) (fun z => nomatch z) fun _ => q_next (q_if (a := false) (EvT.to (t_test (e_eqI (d_var rfl) d_int)) rfl) (fun z => nomatch z) fun _ => q_next (q_if (a := false) (EvT.to (t_test (e_eqI (d_var rfl) d_int)) rfl) (fun z => nomatch z) fun _ => q_next (q_if (a := false) (EvT.to (t_test (e_eqI (d_var rfl) d_int)) rfl) (fun z => nomatch z) fun _ => q_next (q_if (a := true) (EvT.to (t_test (e_eqI (d_var rfl) d_int)) rfl) (fun _ => (s_retC (a_cons (i0 _ rfl) (a_cons (i1 _ rfl) (a_cons (i2 _ rfl) (a_cons (i3 _ rfl) a_nil)))) ⟨R, A, (v : Int), b, rfl, h, hA, rfl, rfl⟩ (.inl rfl))) fun z => nomatch z)))))))))
    · exact (q_if (a := false) (EvT.to (t_test (e_eqI (d_var rfl) d_int)) rfl) (fun z => nomatch z) fun _ => q_next (q_if (a := false) (EvT.to (t_test (e_eqI (d_var rfl) d_int)) rfl) (fun z => nomatch z) fun _ => q_next (q_if (a := false) (EvT.to (t_test (e_eqI (d_var rfl) d_int)) rfl) (fun z => nomatch z) fun _ => q_next (q_if (a := false) (EvT.to (t_test (e_eqI (d_var rfl) d_int)) rfl) (fun z => nomatch z) fun _ => q_next (q_if (a := false) (EvT.to (t_test (e_eqI (d_var rfl) d_int)) rfl) (fun z => nomatch z) fun _ => q_next (q_if (a := false) (EvT.to (t_test (e_eqI (d_var rfl) d_int)) rfl) (fun z => nomatch z) fun _ => q_next (q_if (a := false) (EvT.to (t_test (e_eqI (d_var rfl) d_int)) rfl) (fun z => nomatch z) fun _ => q_next (q_if (a := false) (EvT.to (t_test (e_eqI (d_var rfl) d_int)) rfl) (fun z => nomatch z) fun _ => q_next (q_if (a := false) (EvT.to (t_test (e_eqI (d_var rfl) d_int)) rfl) (fun z => nomatch z) fun _ => q_next (s_retC (a_cons (i0 _ rfl) (a_cons (i1 _ rfl) (a_cons (i2 _ rfl) (a_cons (i3 _ rfl) (a_cons d_non a_nil))))) ⟨R, A, (v : Int), b, .none, rfl, h, hA, evx, rfl, rfl⟩ (.inl rfl)))))))))))

theorem ok__law_named {P : Program} {w : World} {K : PySem.W.Frag} {mg : Str → Option Value} {base : Heap} {f : Addr} {fd : FuncData} (F : Fun K "_law_named" "_law_named" s__law_named f fd) (T : Txt mg) (c__law_told : Cal P w K mg base CX0 13 "_law_told" p__law_told (sp__law_told61 K)) (c__law_next : Cal P w K mg base CX0 1 "_law_next" p__law_next (sp__law_next K)) :
    FnOk P w K mg base CX0 14 f fd p__law_named (sp__law_named61 K) := by
  refine F.ok sc__law_named (fun vs H Q E h => spS_len h (by rintro ds k P ⟨w, nms, gd, bd, rfl, _⟩; rfl)) (fun cdv A outer s H vs Q E hr h => ⟨_, (pss_cons (ps_if (pt_cmpR (k_ne (K := K) rfl (rUnits hr)) (pe_cal c__law_told (hr.mono (by decide)) rfl pass0 (pa_cons (pv 1) (pa_cons (pv 3) pa_nil))) (pe_tupN (pa_cons pe_str pa_nil)) (nomark _)) (pss_one (ps_ret pe_bl)) pss_nil)
      (pss_cons (ps_for PassesOwn.never rfl (pi_range1 rfl T.b_range (pa_cons (pe_callB (k_len (K := K) rfl) rfl T.b_len (by decide +kernel) (pa_cons (pv 2) pa_nil)) pa_nil)) (pg_name (i := 5) sc__law_named.nd rfl (Or.inl rfl)) (pss_cons (ps_set (i := 6) sc__law_named.nd rfl (Or.inl rfl) (pe_callTy (k_list (K := K) rfl) rfl T.b_list (by decide +kernel) (pa_cons (pv 3) pa_nil)))
      (pss_cons (ps_asg (pe_ix (k_ix (K := K) rfl) (pv 4) (pv 5) (fun _ _ => rfl)) (pg_sub (pv 6) (pv 5) set_list))
      (pss_cons (ps_for PassesOwn.never rfl (pi_range2 rfl T.b_range (pa_cons (pe_op (k_add (K := K) rfl) (pv 5) pe_int) (pa_cons (pe_callB (k_len (K := K) rfl) rfl T.b_len (by decide +kernel) (pa_cons (pv 2) pa_nil)) pa_nil))) (pg_name (i := 7) sc__law_named.nd rfl (Or.inl rfl)) (pss_one (ps_if (pt_cmpR (k_eq (K := K) rfl (rUnits hr)) (pe_cal c__law_next (hr.mono (by decide)) rfl pass0 (pa_cons (pv 0) (pa_cons pe_int pa_nil))) pe_int (nomark _)) (pss_one (ps_asg (pe_ix (k_ix (K := K) rfl) (pv 4) (pv 7) (fun _ _ => rfl)) (pg_sub (pv 6) (pv 7) set_list))) pss_nil)))
      (pss_one (ps_if (pt_cmpR (k_ne (K := K) rfl (rUnits hr)) (pe_cal c__law_told (hr.mono (by decide)) rfl pass0 (pa_cons (pv 1) (pa_cons (pv 6) pa_nil))) (pe_tupN (pa_cons pe_str (pa_cons (pe_ix (k_ix (K := K) rfl) (pv 2) (pv 5) (fun _ _ => rfl)) pa_nil))) (nomark _)) (pss_one (ps_ret pe_bl)) pss_nil))))))
      (pss_one (ps_ret pe_bl)))), run_str (N := n__law_named) (fun st l ds k P' hp => ?_) h⟩)
  obtain ⟨w, nms, gd, bd, rfl, ⟨dd, hP⟩, ⟨lg, lb, l6, hz, hB⟩, rfl, rfl⟩ := hp
  have sf : SeqAt.shaped (.tuple [.str (Str.ofString "fine")]) = true := (sh_tup (n := 0) (ds := [.str (Str.ofString "fine")]) (by simp [sh_str])).ok (by decide)
  refine q_no (EvT.to (t_test (e_neD (d_call (k := .v) (d := .tuple [.str "fine"]) (a_cons (d_var rfl) (a_cons (d_var rfl) a_nil)) ⟨w, gd, rfl, rfl, .inl ⟨⟨dd, hP⟩, rfl⟩⟩) (d_tup (a_consV d_str a_nil) (by simp)) sf sf)) (by rw [eqv_rf rfl]; rfl)) ?_
  refine q_for (i_rngN (n := nms.length) (a_cons ((d_lenL (d_var rfl)).to (by rw [List.length_map])) a_nil) (by omega)) (fun n Γ1 => ∃ t5 t6 t7, Γ1 = [some (.r (.ref st)), some (.v (.int (w : Int))), some (.v (.list (nms.map .str))), some (.v (.list gd)), some (.v (.list bd)), t5, t6, t7]) ⟨_, _, _, rfl⟩ (fun n a Γ1 hn' hI => ?_) (fun Γ1 hI => ?_)
  · obtain ⟨t5, t6, t7, rfl⟩ := hI
    obtain ⟨hn, rfl⟩ := rngN_at hn'
    have bn : bd[n]? = some (bd.getD n .none) := by rw [List.getD_eq_getElem?_getD, List.getElem?_eq_getElem (by omega)]; rfl
    refine ⟨_, _, g_name, ?_⟩
    refine q_asgW (w_list (d_var rfl)) ?_
    refine s_seqE (fun Γ1 => Γ1 = [some (.r (.ref st)), some (.v (.int (w : Int))), some (.v (.list (nms.map .str))), some (.v (.list gd)), some (.v (.list bd)), some (.v (.int (n : Int))), some (.w (gd.set n (bd.getD n .none))), t7]) (s_setW (m := n) rfl (e_ixLv (d_var rfl) (d_var rfl) (atI_nat bn)) (d_var rfl) (ixN_at rfl (by omega)) ⟨_, rfl, rfl⟩) ?_
    rintro Γ1 rfl
    refine q_for (i_rngN2 (lo := n + 1) (n := nms.length) (a_cons (Ev.to (e_add (d_var rfl) d_int) (y := .int ((n + 1 : Nat) : Int)) rfl) (a_cons ((d_lenL (d_var rfl)).to (by rw [List.length_map])) a_nil)) (by omega) (by omega))
      (fun m Γ1 => ∃ (row : List PyData) (t7 : Option Rs), Γ1 = [some (.r (.ref st)), some (.v (.int (w : Int))), some (.v (.list (nms.map .str))), some (.v (.list gd)), some (.v (.list bd)), some (.v (.int (n : Int))), some (.w row), t7] ∧ row.length = nms.length ∧ (∀ j, j < n → row[j]? = gd[j]?) ∧ row[n]? = bd[n]? ∧ ∀ j, n < j → row[j]? = gd[j]? ∨ row[j]? = bd[j]?)
      ⟨_, _, rfl, by rw [List.length_set, lg], fun j hj => List.getElem?_set_ne (by omega), by rw [List.getElem?_set_self (by omega), bn], fun j hj => .inl (List.getElem?_set_ne (by omega))⟩ (fun m a Γ1 hm' hI => ?_) (fun Γ1 hI => ?_)
    · obtain ⟨row, t7, rfl, r1, r2, r3, r4⟩ := hI
      have hm : m < nms.length - (n + 1) := by have := (List.getElem?_eq_some_iff.mp hm').1; simpa using this
      have ea : a = .d (.int ((n + 1 + m : Nat) : Int)) := by
        rw [List.getElem?_map, List.getElem?_range hm] at hm'
        exact (Option.some.inj hm').symm
      subst ea
      have bm : bd[n + 1 + m]? = some (bd.getD (n + 1 + m) .none) := by rw [List.getD_eq_getElem?_getD, List.getElem?_eq_getElem (by omega)]; rfl
      refine ⟨_, _, g_name, s_ifN (tn_eq (n_call (st := st) (l := l) rfl rfl (a_cons d_int a_nil) ⟨2, rfl, by decide, by decide, rfl, rfl⟩) (d_int.sm (Q := fun _ => True) trivial)) ?_ (s_next (.inl ⟨_, .inl rfl, row, _, rfl, r1, r2, r3, r4⟩))⟩
      refine s_setW (m := n + 1 + m) rfl (e_ixLv (d_var rfl) (d_var rfl) (atI_nat bm)) (d_var rfl) (ixN_at rfl (by omega)) (.inl ⟨_, .inl rfl, row.set (n + 1 + m) (bd.getD (n + 1 + m) .none), _, rfl, by rw [List.length_set, r1], fun j hj => ?_, ?_, fun j hj => ?_⟩)
      · rw [List.getElem?_set_ne (by omega)]; exact r2 j hj
      · rw [List.getElem?_set_ne (by omega)]; exact r3
      · by_cases e : n + 1 + m = j
        · subst e
          exact .inr (by rw [List.getElem?_set_self (by omega), bm])
        · rw [List.getElem?_set_ne e]; exact r4 j hj
    · obtain ⟨row, t7, rfl, r1, r2, r3, r4⟩ := hI
      have sn : nms[n]? = some (nms.getD n "") := by rw [List.getD_eq_getElem?_getD, List.getElem?_eq_getElem hn]; rfl
      have mn : nms.getD n "" ∈ nms := List.mem_of_getElem? sn
      have sb := hz _ mn
      refine s_freezeW (n := 6) rfl ?_
      exact s_if (a := false) (EvT.to (t_test (e_neD (d_call (k := .v) (d := .tuple [.str (Str.ofString "bad"), .str (nms.getD n "")]) (a_cons (d_var rfl) (a_cons (d_var rfl) a_nil)) ⟨w, row, rfl, rfl, .inr ⟨_, hB n hn row r1 r2 r3 r4, rfl⟩⟩) (d_tup (a_consV d_str (a_consV (e_ixLv (d_var rfl) (d_var rfl) (atI_nat (v := .str (nms.getD n "")) (by rw [List.getElem?_map, sn]; rfl))) a_nil)) (by simp)) sb sb)) (by rw [eqv_rf rfl]; rfl)) (fun z => nomatch z) fun _ => s_next (.inl ⟨_, .inl rfl, _, _, _, rfl⟩)
  · obtain ⟨t5, t6, t7, rfl⟩ := hI
    exact s_ret d_bl (.inr ⟨rfl, rfl⟩) ⟨_, rfl, rfl⟩

theorem ok_ini_BadValue {P : Program} {w : World} {K : PySem.W.Frag} {mg : Str → Option Value} {base : Heap} {f C cc cda : Addr} {kV doc pm ct oc cl ccl : Value} {an od cdd cld : Option Addr} {osl csl ccs : Array (Option Value)} {vs : Array Value} {file : Str} {tf : Tok}
    (lk : K.lookup f = some ⟨oc, od, .func (PySem.W.ksFn "__init__" "BadValue.__init__" (defArgs s_ini_BadValue) (defBody s_ini_BadValue) (defScope s_ini_BadValue) .none kV doc pm an (.ref cda) ct cc), osl⟩)
    (hcd : PySem.W.codeIn K (.ref cda) "BadValue.__init__" = true) (hcode : K.lookup cda = some ⟨ccl, cdd, .fields vs, ccs⟩) (hvs : vs[2]? = some (.str file tf)) (hfile : ((P.main.file : Str) == file) = true) (hcell : K.lookup cc = some ⟨cl, cld, .cell (some (.ref C)), csl⟩)
    (O : OexC K C) (hno : PySem.W.findIn K (.ref C) "name" = some none) (hsuper : mg "super" = none) (hsub : PySem.W.subIn K (.ref C) (.type "ValueError") = some true) (hop : PySem.W.nsIn K cStatics "thirdparty.any" = some none)
    (hm : PySem.W.ks_superIn K C C "__init__" = some (some (.builtin "ValueError.__init__"))) (htop : (P.main.scope.names.lookup ("super" : Str)).isSome = false) :
    FnOk P w K mg base (L2.CX P w) 1 f (PySem.W.ksFn "__init__" "BadValue.__init__" (defArgs s_ini_BadValue) (defBody s_ini_BadValue) (defScope s_ini_BadValue) .none kV doc pm an (.ref cda) ct cc) ["self", "name"] (spIni C "name") :=
  fn_super (k := 0) (N := ["self", "name"]) (ps := ["self", "name"]) lk hcd ⟨rfl, rfl, rfl, by decide +kernel, rfl, by decide +kernel, by decide +kernel, by decide +kernel, rfl, rfl⟩ rfl rfl hcode hvs hfile hcell O hsuper hsub hop hm htop (fun vs H Q E h => by obtain ⟨a, nm, rfl, _⟩ := h; rfl)
    (fun A outer s H vs Q E hr h => by
      obtain ⟨a, nm, rfl, hz, ha, hq⟩ := h
      exact ⟨a, [.str nm], _, _, rfl, ha, pe_joined (PJ.cons pe_str (PJ.cons (pe_fmt (pv 1)) PJ.nil)), pss_one (ps_ost (pv 0) (pv 1)), run_ini (Q := Q) (by decide) hz O hno rfl rfl ha hq⟩)
end W

namespace W
open PySem PySem.Spec PyProof.Rows L2 Lm
theorem ok_requireX {P : Program} {w : World} {K : PySem.W.Frag} {mg : Str → Option Value} {base : Heap} {f C : Addr} {fd : FuncData} (F : Fun K "require" "require" s_require f fd) (T : Txt mg) (X : Exc1 P w K mg base "BadValue" "name" C) :
    FnOk P w K mg base (L2.CX P w) 4 f fd p_require (spReq C) := by
  obtain ⟨fI, fdI, iC, tI, F1, hb⟩ := X.ini
  refine F.okX sc_require (fun vs H Q E h => by obtain ⟨b, nm, rfl, _⟩ := h; rfl) (fun cdv A outer s H vs Q E hr h => ⟨_, (pss_one (ps_if (pt_not (pt_val (pv 0))) (pss_one (ps_raise rfl (takes_of rfl rfl rfl rfl) (pmk_oex X.O iC tI F1 (hr.mono (by decide)) hb .nil passL rfl X.hC (pa_cons (pv 1) pa_nil)))) pss_nil)), ?_⟩)
  obtain ⟨b, nm, rfl, hz, h1, h2⟩ := h
  cases b with
  | true => exact ⟨.bl true, rfl, true, rfl, h1 rfl⟩
  | false => exact ⟨.bl false, rfl, false, rfl, mkO_req hz (fun Q' q => ⟨_, rfl, q⟩) (h2 rfl)⟩

theorem ok_check_variantsX {P : Program} {w : World} {K : PySem.W.Frag} {mg : Str → Option Value} {base : Heap} {f C : Addr} {fd : FuncData} (F : Fun K "check_variants" "check_variants" s_check_variants f fd) (T : Txt mg) (c_is_integer : Cal P w K mg base CX0 1 "is_integer" p_is_integer (sp_is_integer K)) {fx_require : Addr} {fdx_require : FuncData} (X_require : FnOk P w K mg base (L2.CX P w) 4 fx_require fdx_require p_require (spReq C)) (m_require : mg "require" = some (.ref fx_require)) (k_require : PySem.W.keepIn K (.ref fx_require) = true) (b_require : Binds K fdx_require p_require []) :
    FnOk P w K mg base (L2.CX P w) 5 f fd p_check_variants (spRef K C RcV) := by
  refine F.okX sc_check_variants (fun vs H Q E h => by obtain ⟨ds, nm, hb, hd, _⟩ := h; rw [hb.len, RcV_len hd]; rfl) (fun cdv A outer s H vs Q E hr h => ⟨_, (pss_one (ps_expr (pe_call X_require (hr.mono (by decide)) rfl m_require k_require b_require .nil (passes_call (E := E) (takes_of rfl rfl rfl rfl) (fun _ _ _ _ h => h)) (pa_cons (pe_cal (cal_up0 c_is_integer) (hr.mono (by decide)) rfl passL (pa_cons (pv 0) (pa_cons pe_int (pa_cons (pe_const rfl T.k_MOST_VARIANTS) pa_nil)))) (pa_cons pe_str pa_nil))))), run_ref (N := n_check_variants) (C := C) (fun ds nm hd hE => ?_) h⟩)
  obtain ⟨x, rfl, hx, rfl⟩ := hd
  exact xl_req (by decide) hE (d_call (k := .v) (d := .bool false) (a_cons (d_var rfl) (a_cons d_int (a_cons d_int a_nil))) ⟨x, 1, 5, rfl, rfl, by rw [hx]⟩)

theorem ok_check_sizesX {P : Program} {w : World} {K : PySem.W.Frag} {mg : Str → Option Value} {base : Heap} {f C : Addr} {fd : FuncData} (F : Fun K "check_sizes" "check_sizes" s_check_sizes f fd) (T : Txt mg) (c_is_integer : Cal P w K mg base CX0 1 "is_integer" p_is_integer (sp_is_integer K)) {fx_check_variants : Addr} {fdx_check_variants : FuncData} (X_check_variants : FnOk P w K mg base (L2.CX P w) 5 fx_check_variants fdx_check_variants p_check_variants (spDR K C (sp_check_variants K) RcV)) (m_check_variants : mg "check_variants" = some (.ref fx_check_variants)) (k_check_variants : PySem.W.keepIn K (.ref fx_check_variants) = true) (b_check_variants : Binds K fdx_check_variants p_check_variants []) {fx_require : Addr} {fdx_require : FuncData} (X_require : FnOk P w K mg base (L2.CX P w) 4 fx_require fdx_require p_require (spReq C)) (m_require : mg "require" = some (.ref fx_require)) (k_require : PySem.W.keepIn K (.ref fx_require) = true) (b_require : Binds K fdx_require p_require []) :
    FnOk P w K mg base (L2.CX P w) 6 f fd p_check_sizes (spRef K C RcSz) := by
  refine F.okX sc_check_sizes (fun vs H Q E h => by obtain ⟨ds, nm, hb, hd, _⟩ := h; rw [hb.len, RcSz_len hd]; rfl) (fun cdv A outer s H vs Q E hr h => ⟨_, (pss_cons (ps_expr (pe_call X_check_variants (hr.mono (by decide)) rfl m_check_variants k_check_variants b_check_variants .nil (passes_call (E := E) (takes_of rfl rfl rfl rfl) (fun _ _ _ _ h => h)) (pa_cons (pv 0) pa_nil)))
      (pss_one (ps_expr (pe_call X_require (hr.mono (by decide)) rfl m_require k_require b_require .nil (passes_call (E := E) (takes_of rfl rfl rfl rfl) (fun _ _ _ _ h => h)) (pa_cons (pe_cal (cal_up0 c_is_integer) (hr.mono (by decide)) rfl passL (pa_cons (pv 1) (pa_cons pe_int (pa_cons (pe_const rfl T.k_MOST_BUCKETS) pa_nil)))) (pa_cons pe_str pa_nil)))))), run_ref (N := n_check_sizes) (C := C) (fun ds nm hd hE => ?_) h⟩)
  obtain ⟨x, y, rfl, ⟨hx, rfl⟩ | ⟨v, rfl, v1, v5, hy, rfl⟩⟩ := hd
  · exact x_seq (x_dropE (x_ref (ds := [x]) (nm := "variants") (a_cons (d_var rfl) a_nil) ⟨x, rfl, hx, rfl⟩ hE))
  · refine x_drop (x_good (k := .v) (d := .none) (a_cons (d_var rfl) a_nil) ⟨(v : Int), rfl, by omega, by omega, rfl, rfl⟩) ?_
    exact xl_req (by decide) hE (d_call (k := .v) (d := .bool false) (a_cons (d_var rfl) (a_cons d_int (a_cons d_int a_nil))) ⟨y, 0, 20, rfl, rfl, by rw [hy]⟩)

theorem ok_check_bucketX {P : Program} {w : World} {K : PySem.W.Frag} {mg : Str → Option Value} {base : Heap} {f C : Addr} {fd : FuncData} (F : Fun K "check_bucket" "check_bucket" s_check_bucket f fd) (T : Txt mg) (c_is_integer : Cal P w K mg base CX0 1 "is_integer" p_is_integer (sp_is_integer K)) {fx_require : Addr} {fdx_require : FuncData} (X_require : FnOk P w K mg base (L2.CX P w) 4 fx_require fdx_require p_require (spReq C)) (m_require : mg "require" = some (.ref fx_require)) (k_require : PySem.W.keepIn K (.ref fx_require) = true) (b_require : Binds K fdx_require p_require []) :
    FnOk P w K mg base (L2.CX P w) 5 f fd p_check_bucket (spRef K C RcB) := by
  refine F.okX sc_check_bucket (fun vs H Q E h => by obtain ⟨ds, nm, hb, hd, _⟩ := h; rw [hb.len, RcB_len hd]; rfl) (fun cdv A outer s H vs Q E hr h => ⟨_, (pss_one (ps_expr (pe_call X_require (hr.mono (by decide)) rfl m_require k_require b_require .nil (passes_call (E := E) (takes_of rfl rfl rfl rfl) (fun _ _ _ _ h => h)) (pa_cons (pe_cal (cal_up0 c_is_integer) (hr.mono (by decide)) rfl passL (pa_cons (pv 0) (pa_cons pe_int (pa_cons (pe_op op_sub (pv 1) pe_int) pa_nil)))) (pa_cons pe_str pa_nil))))), run_ref (N := n_check_bucket) (C := C) (fun ds nm hd hE => ?_) h⟩)
  obtain ⟨x, n, rfl, hx, rfl⟩ := hd
  exact xl_req (by decide) hE (d_call (k := .v) (d := .bool false) (a_cons (d_var rfl) (a_cons d_int (a_cons (d_sub (d_var rfl) d_int) a_nil))) ⟨x, 0, n - 1, rfl, rfl, by rw [hx]⟩)

theorem ok_is_ruleX {P : Program} {w : World} {K : PySem.W.Frag} {mg : Str → Option Value} {base : Heap} {f C : Addr} {fd : FuncData} (F : Fun K "is_rule" "is_rule" s_is_rule f fd) (T : Txt mg) (c_is_pair : Cal P w K mg base CX0 7 "is_pair" p_is_pair (sp_is_pairX K)) {fx_check_sizes : Addr} {fdx_check_sizes : FuncData} (X_check_sizes : FnOk P w K mg base (L2.CX P w) 6 fx_check_sizes fdx_check_sizes p_check_sizes (spDR K C (sp_check_sizes K) RcSz)) (m_check_sizes : mg "check_sizes" = some (.ref fx_check_sizes)) (k_check_sizes : PySem.W.keepIn K (.ref fx_check_sizes) = true) (b_check_sizes : Binds K fdx_check_sizes p_check_sizes []) :
    FnOk P w K mg base (L2.CX P w) 8 f fd p_is_rule (spRef K C RcIr) := by
  refine F.okX sc_is_rule (fun vs H Q E h => by obtain ⟨ds, nm, hb, hd, _⟩ := h; rw [hb.len, RcIr_len hd]; rfl) (fun cdv A outer s H vs Q E hr h => ⟨_, (pss_cons (ps_expr (pe_call X_check_sizes (hr.mono (by decide)) rfl m_check_sizes k_check_sizes b_check_sizes .nil (passes_call (E := E) (takes_of rfl rfl rfl rfl) (fun _ _ _ _ h => h)) (pa_cons (pv 1) (pa_cons (pv 2) pa_nil))))
      (pss_cons (ps_if (PW.pt (pw_or (pt_not (pt_val (pe_callB (k_isi (K := K) rfl) rfl T.b_isinstance (by decide +kernel) (pa_cons (pv 0) (pa_cons (pe_ty (n := "tuple") rfl T.b_tuple (by decide +kernel)) pa_nil))))) (pw_or1 (pt_cmpR op_gt (pe_callB (k_len (K := K) rfl) rfl T.b_len (by decide +kernel) (pa_cons (pv 0) pa_nil)) (pe_const rfl T.k_MOST_PAIRS) (nomark _))))) (pss_one (ps_ret pe_bl)) pss_nil)
      (pss_cons (ps_if (pt_not (pt_val (pe_callB (k_all (K := K) rfl rfl) rfl T.b_all (by decide +kernel) (pa_cons (pe_lc rfl sc_is_rule.nd (k_seq (K := K) rfl (pv 0)) (blkOk_by (own := [("pair", 3)]) (N := n_is_rule) (sc := defScope s_is_rule) (by decide +kernel)) (fun _ _ _ _ _ => by exact (pg_name (i := 3) sc_is_rule.nd rfl (Or.inl rfl))) (fun _ _ _ _ _ => by exact pts_nil) (fun _ _ _ _ _ => by exact (pe_cal (cal_up0 c_is_pair) (hr.mono (by decide)) rfl passL (pa_cons (pv 3) (pa_cons (pv 1) (pa_cons (pv 2) pa_nil)))))) pa_nil)))) (pss_one (ps_ret pe_bl)) pss_nil)
      (pss_one (ps_ret (pe_cmpR (k_eq (K := K) rfl (rUnits hr)) (k_lenSetR (K := K) rfl rfl T.b_len rfl T.b_set (pe_lc rfl sc_is_rule.nd (k_seq (K := K) rfl (pv 0)) (blkOk_by (own := [("allocation", 4), ("_", 5)]) (N := n_is_rule) (sc := defScope s_is_rule) (by decide +kernel)) (fun _ _ _ _ _ => by exact (k_tup (K := K) (n := 2) rfl rfl (pgs_cons (pg_name (i := 4) sc_is_rule.nd rfl (Or.inl rfl)) (pgs_cons (pg_name (i := 5) sc_is_rule.nd rfl (Or.inl rfl)) pgs_nil)))) (fun _ _ _ _ _ => by exact pts_nil) (fun _ _ _ _ _ => by exact (pv 4))) (rUnits5 hr)) (pe_callB (k_len (K := K) rfl) rfl T.b_len (by decide +kernel) (pa_cons (pv 0) pa_nil)) (nomark _))))))), run_ref (N := n_is_rule) (C := C) (fun ds nm hd hE => ?_) h⟩)
  obtain ⟨x, y, z, rfl, hd⟩ := hd
  exact x_seq (x_dropE (x_ref (a_cons (d_var rfl) (a_cons (d_var rfl) a_nil)) hd hE))

theorem ok_check_ruleX {P : Program} {w : World} {K : PySem.W.Frag} {mg : Str → Option Value} {base : Heap} {f C : Addr} {fd : FuncData} (F : Fun K "check_rule" "check_rule" s_check_rule f fd) (T : Txt mg) {fx_is_rule : Addr} {fdx_is_rule : FuncData} (X_is_rule : FnOk P w K mg base (L2.CX P w) 8 fx_is_rule fdx_is_rule p_is_rule (spDR K C (sp_is_ruleX K) RcIr)) (m_is_rule : mg "is_rule" = some (.ref fx_is_rule)) (k_is_rule : PySem.W.keepIn K (.ref fx_is_rule) = true) (b_is_rule : Binds K fdx_is_rule p_is_rule []) {fx_require : Addr} {fdx_require : FuncData} (X_require : FnOk P w K mg base (L2.CX P w) 4 fx_require fdx_require p_require (spReq C)) (m_require : mg "require" = some (.ref fx_require)) (k_require : PySem.W.keepIn K (.ref fx_require) = true) (b_require : Binds K fdx_require p_require []) :
    FnOk P w K mg base (L2.CX P w) 9 f fd p_check_rule (spRef K C RcRu) := by
  refine F.okX sc_check_rule (fun vs H Q E h => by obtain ⟨ds, nm, hb, hd, _⟩ := h; rw [hb.len, RcRu_len hd]; rfl) (fun cdv A outer s H vs Q E hr h => ⟨_, (pss_one (ps_expr (pe_call X_require (hr.mono (by decide)) rfl m_require k_require b_require .nil (passes_call (E := E) (takes_of rfl rfl rfl rfl) (fun _ _ _ _ h => h)) (pa_cons (pe_call X_is_rule (hr.mono (by decide)) rfl m_is_rule k_is_rule b_is_rule .nil (passes_call (E := E) (takes_of rfl rfl rfl rfl) (fun _ _ _ _ h => h)) (pa_cons (pv 2) (pa_cons (pv 0) (pa_cons (pv 1) pa_nil)))) (pa_cons pe_str pa_nil))))), run_ref (N := n_check_rule) (C := C) (fun ds nm hd hE => ?_) h⟩)
  obtain ⟨x, y, z, rfl, hd | ⟨v, b, rfl, rfl, v1, v5, b20, hz, rfl⟩⟩ := hd
  · exact x_dropE (x_arg (x_ref (ds := [z, x, y]) (a_cons (d_var rfl) (a_cons (d_var rfl) (a_cons (d_var rfl) a_nil))) ⟨x, y, z, rfl, hd⟩ hE))
  · exact xl_req (by decide) hE (x_good (k := .v) (d := .bool false) (a_cons (d_var rfl) (a_cons (d_var rfl) (a_cons (d_var rfl) a_nil))) ⟨z, v, b, rfl, v1, v5, b20, rfl, .inr ⟨hz, rfl⟩⟩)

theorem ok_missingX {P : Program} {w : World} {K : PySem.W.Frag} {mg : Str → Option Value} {base : Heap} {f C : Addr} {fd : FuncData} (F : Fun K "missing" "missing" s_missing f fd) (T : Txt mg) (c_given_back : Cal P w K mg base CX0 1 "given_back" p_given_back (sp_given_back K)) {fx_check_rule : Addr} {fdx_check_rule : FuncData} (X_check_rule : FnOk P w K mg base (L2.CX P w) 9 fx_check_rule fdx_check_rule p_check_rule (spDR K C (sp_check_rule K) RcRu)) (m_check_rule : mg "check_rule" = some (.ref fx_check_rule)) (k_check_rule : PySem.W.keepIn K (.ref fx_check_rule) = true) (b_check_rule : Binds K fdx_check_rule p_check_rule []) :
    FnOk P w K mg base (L2.CX P w) 10 f fd p_missing (spRef K C RcRu) := by
  refine F.okX sc_missing (fun vs H Q E h => by obtain ⟨ds, nm, hb, hd, _⟩ := h; rw [hb.len, RcRu_len hd]; rfl) (fun cdv A outer s H vs Q E hr h => ⟨_, (pss_cons (ps_expr (pe_call X_check_rule (hr.mono (by decide)) rfl m_check_rule k_check_rule b_check_rule .nil (passes_call (E := E) (takes_of rfl rfl rfl rfl) (fun _ _ _ _ h => h)) (pa_cons (pv 0) (pa_cons (pv 1) (pa_cons (pv 2) pa_nil)))))
      (pss_cons (ps_setLc (i := 3) rfl sc_missing.nd rfl rfl (sw_true rfl rfl rfl (by decide +kernel)) (k_seq (K := K) rfl (pv 2)) (blkOk_by (own := [("allocation", 4), ("_", 5)]) (N := n_missing) (sc := defScope s_missing) (by decide +kernel)) (fun _ _ _ _ _ => by exact (k_tup (K := K) (n := 2) rfl rfl (pgs_cons (pg_name (i := 4) sc_missing.nd rfl (Or.inl rfl)) (pgs_cons (pg_name (i := 5) sc_missing.nd rfl (Or.inl rfl)) pgs_nil)))) (fun _ _ _ _ _ => by exact pts_nil) (fun _ _ _ _ _ => by exact (pv 4)))
      (pss_cons (ps_for (passes_of rfl) rfl (k_enum (K := K) rfl rfl T.b_enumerate (pa_cons (pv 3) pa_nil)) (k_tup (K := K) (n := 2) rfl rfl (pgs_cons (pg_name (i := 6) sc_missing.nd rfl (Or.inl rfl)) (pgs_cons (pg_name (i := 4) sc_missing.nd rfl (Or.inl rfl)) pgs_nil))) (pss_one (ps_for (passes_of rfl) rfl (pi_range2 rfl T.b_range (pa_cons (pe_op (k_add (K := K) rfl) (pe_const rfl T.k_CONTROL) pe_int) (pa_cons (pv 0) pa_nil))) (pg_name (i := 7) sc_missing.nd rfl (Or.inl rfl)) (pss_one (ps_if (PW.pt (pw_and (pt_cmpR op_gt (pe_ix (k_ix (K := K) rfl) (pv 4) (pv 7) (fun _ _ => rfl)) pe_int (nomark _)) (pw_and1 (pt_cmpR (k_notInU (K := K) rfl (rUnits5 hr)) (pe_cal (cal_up0 c_given_back) (hr.mono (by decide)) rfl passL (pa_cons (pv 4) (pa_cons (pv 7) pa_nil))) (pv 3) (by with_unfolding_all rfl))))) (pss_one (ps_ret (pe_tupN (pa_cons (pv 6) (pa_cons (pv 7) (pa_cons (pe_cal (cal_up0 c_given_back) (hr.mono (by decide)) rfl passL (pa_cons (pv 4) (pa_cons (pv 7) pa_nil))) pa_nil)))))) pss_nil)))))
      (pss_one (ps_ret pe_non))))), run_ref (N := n_missing) (C := C) (fun ds nm hd hE => ?_) h⟩)
  obtain ⟨x, y, z, e, _⟩ := id hd
  subst e
  exact x_seq (x_dropE (x_ref (a_cons (d_var rfl) (a_cons (d_var rfl) (a_cons (d_var rfl) a_nil))) hd hE))

theorem ok_needless_leaveX {P : Program} {w : World} {K : PySem.W.Frag} {mg : Str → Option Value} {base : Heap} {f C : Addr} {fd : FuncData} (F : Fun K "needless_leave" "needless_leave" s_needless_leave f fd) (T : Txt mg) (c_first_left : Cal P w K mg base CX0 2 "first_left" p_first_left (sp_first_left K)) {fx_check_rule : Addr} {fdx_check_rule : FuncData} (X_check_rule : FnOk P w K mg base (L2.CX P w) 9 fx_check_rule fdx_check_rule p_check_rule (spDR K C (sp_check_rule K) RcRu)) (m_check_rule : mg "check_rule" = some (.ref fx_check_rule)) (k_check_rule : PySem.W.keepIn K (.ref fx_check_rule) = true) (b_check_rule : Binds K fdx_check_rule p_check_rule []) :
    FnOk P w K mg base (L2.CX P w) 10 f fd p_needless_leave (spRef K C RcRu) := by
  refine F.okX sc_needless_leave (fun vs H Q E h => by obtain ⟨ds, nm, hb, hd, _⟩ := h; rw [hb.len, RcRu_len hd]; rfl) (fun cdv A outer s H vs Q E hr h => ⟨_, (pss_cons (ps_expr (pe_call X_check_rule (hr.mono (by decide)) rfl m_check_rule k_check_rule b_check_rule .nil (passes_call (E := E) (takes_of rfl rfl rfl rfl) (fun _ _ _ _ h => h)) (pa_cons (pv 0) (pa_cons (pv 1) (pa_cons (pv 2) pa_nil)))))
      (pss_one (ps_ret (pe_cal (cal_up0 c_first_left) (hr.mono (by decide)) rfl passL (pa_cons (pv 2) (pa_cons (pv 1) pa_nil)))))), run_ref (N := n_needless_leave) (C := C) (fun ds nm hd hE => ?_) h⟩)
  obtain ⟨x, y, z, e, _⟩ := id hd
  subst e
  exact x_seq (x_dropE (x_ref (a_cons (d_var rfl) (a_cons (d_var rfl) (a_cons (d_var rfl) a_nil))) hd hE))

theorem ok_leavesX {P : Program} {w : World} {K : PySem.W.Frag} {mg : Str → Option Value} {base : Heap} {f C : Addr} {fd : FuncData} (F : Fun K "leaves" "leaves" s_leaves f fd) (T : Txt mg) (c_is_left : Cal P w K mg base CX0 1 "is_left" p_is_left (sp_is_left K)) (c_is_integer : Cal P w K mg base CX0 1 "is_integer" p_is_integer (sp_is_integer K)) {fx_check_rule : Addr} {fdx_check_rule : FuncData} (X_check_rule : FnOk P w K mg base (L2.CX P w) 9 fx_check_rule fdx_check_rule p_check_rule (spDR K C (sp_check_rule K) RcRu)) (m_check_rule : mg "check_rule" = some (.ref fx_check_rule)) (k_check_rule : PySem.W.keepIn K (.ref fx_check_rule) = true) (b_check_rule : Binds K fdx_check_rule p_check_rule []) {fx_require : Addr} {fdx_require : FuncData} (X_require : FnOk P w K mg base (L2.CX P w) 4 fx_require fdx_require p_require (spReq C)) (m_require : mg "require" = some (.ref fx_require)) (k_require : PySem.W.keepIn K (.ref fx_require) = true) (b_require : Binds K fdx_require p_require []) {fx_check_bucket : Addr} {fdx_check_bucket : FuncData} (X_check_bucket : FnOk P w K mg base (L2.CX P w) 5 fx_check_bucket fdx_check_bucket p_check_bucket (spDR K C (sp_check_bucket K) RcB)) (m_check_bucket : mg "check_bucket" = some (.ref fx_check_bucket)) (k_check_bucket : PySem.W.keepIn K (.ref fx_check_bucket) = true) (b_check_bucket : Binds K fdx_check_bucket p_check_bucket []) :
    FnOk P w K mg base (L2.CX P w) 10 f fd p_leaves (spRef K C RcLe) := by
  refine F.okX sc_leaves (fun vs H Q E h => by obtain ⟨ds, nm, hb, hd, _⟩ := h; rw [hb.len, RcLe_len hd]; rfl) (fun cdv A outer s H vs Q E hr h => ⟨_, (pss_cons (ps_expr (pe_call X_check_rule (hr.mono (by decide)) rfl m_check_rule k_check_rule b_check_rule .nil (passes_call (E := E) (takes_of rfl rfl rfl rfl) (fun _ _ _ _ h => h)) (pa_cons (pv 0) (pa_cons (pv 1) (pa_cons (pv 2) pa_nil)))))
      (pss_cons (ps_expr (pe_call X_require (hr.mono (by decide)) rfl m_require k_require b_require .nil (passes_call (E := E) (takes_of rfl rfl rfl rfl) (fun _ _ _ _ h => h)) (pa_cons (pe_cal (cal_up0 c_is_integer) (hr.mono (by decide)) rfl passL (pa_cons (pv 3) (pa_cons pe_int (pa_cons (pe_op op_sub (pe_callB (k_len (K := K) rfl) rfl T.b_len (by decide +kernel) (pa_cons (pv 2) pa_nil)) pe_int) pa_nil)))) (pa_cons pe_str pa_nil))))
      (pss_cons (ps_expr (pe_call X_require (hr.mono (by decide)) rfl m_require k_require b_require .nil (passes_call (E := E) (takes_of rfl rfl rfl rfl) (fun _ _ _ _ h => h)) (pa_cons (pe_cal (cal_up0 c_is_integer) (hr.mono (by decide)) rfl passL (pa_cons (pv 4) (pa_cons pe_int (pa_cons (pe_op op_sub (pe_callB (k_len (K := K) rfl) rfl T.b_len (by decide +kernel) (pa_cons (pv 2) pa_nil)) pe_int) pa_nil)))) (pa_cons pe_str pa_nil))))
      (pss_cons (ps_expr (pe_call X_check_bucket (hr.mono (by decide)) rfl m_check_bucket k_check_bucket b_check_bucket .nil (passes_call (E := E) (takes_of rfl rfl rfl rfl) (fun _ _ _ _ h => h)) (pa_cons (pv 5) (pa_cons (pv 1) pa_nil))))
      (pss_one (ps_ret (pe_cal (cal_up0 c_is_left) (hr.mono (by decide)) rfl passL (pa_cons (pe_ix (k_ix (K := K) rfl) (pv 2) (pv 3) (fun _ _ => rfl)) (pa_cons (pe_ix (k_ix (K := K) rfl) (pv 2) (pv 4) (fun _ _ => rfl)) (pa_cons (pv 5) pa_nil)))))))))), run_ref (N := n_leaves) (C := C) (fun ds nm hd hE => ?_) h⟩)
  obtain ⟨x, y, z, f, s, u, rfl, hd | ⟨R, v, b, rfl, rfl, rfl, h, hf⟩⟩ := hd
  · exact x_seq (x_dropE (x_ref (a_cons (d_var rfl) (a_cons (d_var rfl) (a_cons (d_var rfl) a_nil))) hd hE))
  · have v1 := h.v1
    have v5 := h.v5
    have b20 := h.b20
    refine x_drop (x_good (k := .v) (d := .none) (a_cons (d_var rfl) (a_cons (d_var rfl) (a_cons (d_var rfl) a_nil))) ⟨R, v, b, rfl, h, rfl, rfl⟩) ?_
    have rg : ∀ i : Nat, i < R.length → isIntD (.int (i : Int)) 0 ((R.length : Int) - 1) = true := fun i hi => by
      simp [isIntD]; omega
    rcases hf with ⟨hf, rfl⟩ | ⟨i, rfl, hi, hs⟩
    · exact x_seq (xl_req (by decide) hE (d_call (k := .v) (d := .bool false) (a_cons (d_var rfl) (a_cons d_int (a_cons (d_sub (d_lenT (d_var rfl)) d_int) a_nil))) ⟨f, 0, _, rfl, rfl, by rw [List.length_map, hf]⟩))
    · refine x_okreq (by decide) (d_call (k := .v) (d := .bool true) (a_cons (d_var rfl) (a_cons d_int (a_cons (d_sub (d_lenT (d_var rfl)) d_int) a_nil))) ⟨.int (i : Int), 0, _, rfl, rfl, by rw [List.length_map, rg i hi]⟩) ?_
      rcases hs with ⟨hs, rfl⟩ | ⟨j, rfl, hj, hu, rfl⟩
      · exact x_seq (xl_req (by decide) hE (d_call (k := .v) (d := .bool false) (a_cons (d_var rfl) (a_cons d_int (a_cons (d_sub (d_lenT (d_var rfl)) d_int) a_nil))) ⟨s, 0, _, rfl, rfl, by rw [List.length_map, hs]⟩))
      · refine x_okreq (by decide) (d_call (k := .v) (d := .bool true) (a_cons (d_var rfl) (a_cons d_int (a_cons (d_sub (d_lenT (d_var rfl)) d_int) a_nil))) ⟨.int (j : Int), 0, _, rfl, rfl, by rw [List.length_map, rg j hj]⟩) ?_
        exact x_seq (x_dropE (x_ref (ds := [u, .int (b : Int)]) (nm := "bucket") (a_cons (d_var rfl) (a_cons (d_var rfl) a_nil)) ⟨u, (b : Int), rfl, hu, rfl⟩ hE))

theorem ok_lists_of_ruleX {P : Program} {w : World} {K : PySem.W.Frag} {mg : Str → Option Value} {base : Heap} {f C : Addr} {fd : FuncData} (F : Fun K "lists_of_rule" "lists_of_rule" s_lists_of_rule f fd) (T : Txt mg) (c_short_list : Cal P w K mg base CX0 6 "short_list" p_short_list (sp_short_list K)) {fx_needless_leave : Addr} {fdx_needless_leave : FuncData} (X_needless_leave : FnOk P w K mg base (L2.CX P w) 10 fx_needless_leave fdx_needless_leave p_needless_leave (spDR K C (sp_needless_leave K) RcRu)) (m_needless_leave : mg "needless_leave" = some (.ref fx_needless_leave)) (k_needless_leave : PySem.W.keepIn K (.ref fx_needless_leave) = true) (b_needless_leave : Binds K fdx_needless_leave p_needless_leave []) :
    FnOk P w K mg base (L2.CX P w) 11 f fd p_lists_of_rule (spRef K C RcRu) := by
  refine F.okX sc_lists_of_rule (fun vs H Q E h => by obtain ⟨ds, nm, hb, hd, _⟩ := h; rw [hb.len, RcRu_len hd]; rfl) (fun cdv A outer s H vs Q E hr h => ⟨_, (pss_cons (ps_if (pt_cmpR op_notN (pe_call X_needless_leave (hr.mono (by decide)) rfl m_needless_leave k_needless_leave b_needless_leave .nil (passes_call (E := E) (takes_of rfl rfl rfl rfl) (fun _ _ _ _ h => h)) (pa_cons (pv 0) (pa_cons (pv 1) (pa_cons (pv 2) pa_nil)))) pe_non (nomark _)) (pss_one (ps_ret pe_non)) pss_nil)
      (pss_cons (ps_set (i := 3) sc_lists_of_rule.nd rfl (Or.inr rfl) (pe_lc rfl sc_lists_of_rule.nd (k_seq (K := K) rfl (pv 2)) (blkOk_by (own := [("_", 4), ("assignment", 5)]) (N := n_lists_of_rule) (sc := defScope s_lists_of_rule) (by decide +kernel)) (fun _ _ _ _ _ => by exact (k_tup (K := K) (n := 2) rfl rfl (pgs_cons (pg_name (i := 4) sc_lists_of_rule.nd rfl (Or.inl rfl)) (pgs_cons (pg_name (i := 5) sc_lists_of_rule.nd rfl (Or.inl rfl)) pgs_nil)))) (fun _ _ _ _ _ => by exact pts_nil) (fun _ _ _ _ _ => by exact (pv 5))))
      (pss_one (ps_ret (pe_callTy (k_tuple (K := K) rfl) rfl T.b_tuple (by decide +kernel) (pa_cons (pe_lc rfl sc_lists_of_rule.nd (pi_range2 rfl T.b_range (pa_cons (pe_op (k_add (K := K) rfl) (pe_const rfl T.k_CONTROL) pe_int) (pa_cons (pv 0) pa_nil))) (blkOk_by (own := [("variant", 6)]) (N := n_lists_of_rule) (sc := defScope s_lists_of_rule) (by decide +kernel)) (fun _ _ _ _ _ => by exact (pg_name (i := 6) sc_lists_of_rule.nd rfl (Or.inl rfl))) (fun _ _ _ _ _ => by exact pts_nil) (fun _ _ _ _ _ => by exact (pe_cal (cal_up0 c_short_list) (hr.mono (by decide)) rfl passL (pa_cons (pv 3) (pa_cons (pv 6) pa_nil))))) pa_nil)))))), run_ref (N := n_lists_of_rule) (C := C) (fun ds nm hd hE => ?_) h⟩)
  obtain ⟨x, y, z, e, _⟩ := id hd
  subst e
  exact x_seq (x_if (x_test (x_opl (x_ref (a_cons (d_var rfl) (a_cons (d_var rfl) (a_cons (d_var rfl) a_nil))) hd hE))))

theorem ok_serves_ruleX {P : Program} {w : World} {K : PySem.W.Frag} {mg : Str → Option Value} {base : Heap} {f C : Addr} {fd : FuncData} (F : Fun K "serves_rule" "serves_rule" s_serves_rule f fd) (T : Txt mg) (c_are_lists : Cal P w K mg base CX0 3 "are_lists" p_are_lists (sp_are_listsX K)) (c_buckets_of : Cal P w K mg base CX0 5 "buckets_of" p_buckets_of (sp_buckets_of K)) (c_fits : Cal P w K mg base CX0 1 "fits" p_fits (sp_fits K)) {fx_check_rule : Addr} {fdx_check_rule : FuncData} (X_check_rule : FnOk P w K mg base (L2.CX P w) 9 fx_check_rule fdx_check_rule p_check_rule (spDR K C (sp_check_rule K) RcRu)) (m_check_rule : mg "check_rule" = some (.ref fx_check_rule)) (k_check_rule : PySem.W.keepIn K (.ref fx_check_rule) = true) (b_check_rule : Binds K fdx_check_rule p_check_rule []) :
    FnOk P w K mg base (L2.CX P w) 10 f fd p_serves_rule (spRef K C RcS4) := by
  refine F.okX sc_serves_rule (fun vs H Q E h => by obtain ⟨ds, nm, hb, hd, _⟩ := h; rw [hb.len, RcS4_len hd]; rfl) (fun cdv A outer s H vs Q E hr h => ⟨_, (pss_cons (ps_expr (pe_call X_check_rule (hr.mono (by decide)) rfl m_check_rule k_check_rule b_check_rule .nil (passes_call (E := E) (takes_of rfl rfl rfl rfl) (fun _ _ _ _ h => h)) (pa_cons (pv 0) (pa_cons (pv 1) (pa_cons (pv 2) pa_nil)))))
      (pss_cons (ps_if (pt_not (pt_val (pe_cal (cal_up0 c_are_lists) (hr.mono (by decide)) rfl passL (pa_cons (pv 3) (pa_cons (pe_op op_sub (pv 0) pe_int) (pa_cons (pv 1) pa_nil)))))) (pss_one (ps_ret pe_bl)) pss_nil)
      (pss_cons (ps_for (passes_of rfl) rfl (k_seq (K := K) rfl (pv 2)) (k_tup (K := K) (n := 2) rfl rfl (pgs_cons (pg_name (i := 4) sc_serves_rule.nd rfl (Or.inl rfl)) (pgs_cons (pg_name (i := 5) sc_serves_rule.nd rfl (Or.inr rfl)) pgs_nil))) (pss_cons (ps_setLc (i := 6) rfl sc_serves_rule.nd rfl rfl (sw_true rfl rfl rfl (by decide +kernel)) (pi_range2 rfl T.b_range (pa_cons (pe_op (k_add (K := K) rfl) (pe_const rfl T.k_CONTROL) pe_int) (pa_cons (pv 0) pa_nil))) (blkOk_by (own := [("variant", 7)]) (N := n_serves_rule) (sc := defScope s_serves_rule) (by decide +kernel)) (fun _ _ _ _ _ => by exact (pg_name (i := 7) sc_serves_rule.nd rfl (Or.inl rfl))) (fun _ _ _ _ _ => by exact pts_nil) (fun _ _ _ _ _ => by exact (pe_cal (cal_up0 c_buckets_of) (hr.mono (by decide)) rfl passL (pa_cons (pv 5) (pa_cons (pv 7) pa_nil)))))
      (pss_one (ps_if (pt_not (pt_val (pe_callB (k_all (K := K) rfl rfl) rfl T.b_all (by decide +kernel) (pa_cons (pe_lc rfl sc_serves_rule.nd (k_zipM (K := K) (t1 := false) (t2 := true) rfl rfl T.b_zip (pa_cons (pv 3) (pa_cons (pv 6) pa_nil))) (blkOk_by (own := [("row", 8), ("own", 9)]) (N := n_serves_rule) (sc := defScope s_serves_rule) (by decide +kernel)) (fun _ _ _ _ _ => by exact (k_tup (K := K) (n := 2) rfl rfl (pgs_cons (pg_name (i := 8) sc_serves_rule.nd rfl (Or.inl rfl)) (pgs_cons (pg_name (i := 9) sc_serves_rule.nd rfl (Or.inl rfl)) pgs_nil)))) (fun _ _ _ _ _ => by exact pts_nil) (fun _ _ _ _ _ => by exact (pe_cal (cal_up0 c_fits) (hr.mono (by decide)) rfl passL (pa_cons (pv 8) (pa_cons (pv 9) pa_nil))))) pa_nil)))) (pss_one (ps_ret pe_bl)) pss_nil))))
      (pss_one (ps_ret pe_bl))))), run_ref (N := n_serves_rule) (C := C) (fun ds nm hd hE => ?_) h⟩)
  obtain ⟨x, y, z, l, rfl, hd⟩ := hd
  exact x_seq (x_dropE (x_ref (a_cons (d_var rfl) (a_cons (d_var rfl) (a_cons (d_var rfl) a_nil))) hd hE))

theorem ok_most_wasteX {P : Program} {w : World} {K : PySem.W.Frag} {mg : Str → Option Value} {base : Heap} {f C : Addr} {fd : FuncData} (F : Fun K "most_waste" "most_waste" s_most_waste f fd) (T : Txt mg) (c_churn : Cal P w K mg base CX0 7 "churn" p_churn (sp_churn K)) (c_transfer : Cal P w K mg base CX0 5 "transfer" p_transfer (sp_transfer K)) {fx_check_rule : Addr} {fdx_check_rule : FuncData} (X_check_rule : FnOk P w K mg base (L2.CX P w) 9 fx_check_rule fdx_check_rule p_check_rule (spDR K C (sp_check_rule K) RcRu)) (m_check_rule : mg "check_rule" = some (.ref fx_check_rule)) (k_check_rule : PySem.W.keepIn K (.ref fx_check_rule) = true) (b_check_rule : Binds K fdx_check_rule p_check_rule []) :
    FnOk P w K mg base (L2.CX P w) 10 f fd p_most_waste (spRef K C RcRu) := by
  refine F.okX sc_most_waste (fun vs H Q E h => by obtain ⟨ds, nm, hb, hd, _⟩ := h; rw [hb.len, RcRu_len hd]; rfl) (fun cdv A outer s H vs Q E hr h => ⟨_, (pss_cons (ps_expr (pe_call X_check_rule (hr.mono (by decide)) rfl m_check_rule k_check_rule b_check_rule .nil (passes_call (E := E) (takes_of rfl rfl rfl rfl) (fun _ _ _ _ h => h)) (pa_cons (pv 0) (pa_cons (pv 1) (pa_cons (pv 2) pa_nil)))))
      (pss_cons (ps_set (i := 3) sc_most_waste.nd rfl (Or.inl rfl) pe_non)
      (pss_cons (ps_set (i := 4) sc_most_waste.nd rfl (Or.inl rfl) (pe_un un_neg pe_int))
      (pss_cons (ps_for (passes_of rfl) rfl (pi_comb rfl rfl T.i_combinations (pa_cons (pe_callTy cr_rng1 rfl T.b_range (by decide +kernel) (pa_cons (pe_callB (k_len (K := K) rfl) rfl T.b_len (by decide +kernel) (pa_cons (pv 2) pa_nil)) pa_nil)) (pa_cons pe_int pa_nil))) (k_tup (K := K) (n := 2) rfl rfl (pgs_cons (pg_name (i := 5) sc_most_waste.nd rfl (Or.inl rfl)) (pgs_cons (pg_name (i := 6) sc_most_waste.nd rfl (Or.inl rfl)) pgs_nil))) (pss_cons (ps_set (i := 7) sc_most_waste.nd rfl (Or.inl rfl) (pe_cal (cal_up0 c_churn) (hr.mono (by decide)) rfl passL (pa_cons (pe_ix (k_ix (K := K) rfl) (pe_ix (k_ix (K := K) rfl) (pv 2) (pv 5) (fun _ _ => rfl)) pe_int (fun _ _ => rfl)) (pa_cons (pe_ix (k_ix (K := K) rfl) (pe_ix (k_ix (K := K) rfl) (pv 2) (pv 6) (fun _ _ => rfl)) pe_int (fun _ _ => rfl)) pa_nil))))
      (pss_cons (ps_set (i := 8) sc_most_waste.nd rfl (Or.inl rfl) (pe_cal (cal_up0 c_transfer) (hr.mono (by decide)) rfl passL (pa_cons (pe_ix (k_ix (K := K) rfl) (pe_ix (k_ix (K := K) rfl) (pv 2) (pv 5) (fun _ _ => rfl)) pe_int (fun _ _ => rfl)) (pa_cons (pe_ix (k_ix (K := K) rfl) (pe_ix (k_ix (K := K) rfl) (pv 2) (pv 6) (fun _ _ => rfl)) pe_int (fun _ _ => rfl)) pa_nil))))
      (pss_one (ps_if (pt_cmpR op_gt (pe_op op_sub (pv 7) (pv 8)) (pv 4) (nomark _)) (pss_cons (ps_set (i := 4) sc_most_waste.nd rfl (Or.inl rfl) (pe_op op_sub (pv 7) (pv 8)))
      (pss_one (ps_set (i := 3) sc_most_waste.nd rfl (Or.inl rfl) (pe_tupN (pa_cons (pv 5) (pa_cons (pv 6) (pa_cons (pv 7) (pa_cons (pv 8) pa_nil)))))))) pss_nil)))))
      (pss_one (ps_ret (pv 3))))))), run_ref (N := n_most_waste) (C := C) (fun ds nm hd hE => ?_) h⟩)
  obtain ⟨x, y, z, e, _⟩ := id hd
  subst e
  exact x_seq (x_dropE (x_ref (a_cons (d_var rfl) (a_cons (d_var rfl) (a_cons (d_var rfl) a_nil))) hd hE))

theorem ok_check_continuingX {P : Program} {w : World} {K : PySem.W.Frag} {mg : Str → Option Value} {base : Heap} {f C : Addr} {fd : FuncData} (F : Fun K "check_continuing" "check_continuing" s_check_continuing f fd) (T : Txt mg) (c_is_allocation : Cal P w K mg base CX0 3 "is_allocation" p_is_allocation (sp_is_allocation K)) {fx_check_rule : Addr} {fdx_check_rule : FuncData} (X_check_rule : FnOk P w K mg base (L2.CX P w) 9 fx_check_rule fdx_check_rule p_check_rule (spDR K C (sp_check_rule K) RcRu)) (m_check_rule : mg "check_rule" = some (.ref fx_check_rule)) (k_check_rule : PySem.W.keepIn K (.ref fx_check_rule) = true) (b_check_rule : Binds K fdx_check_rule p_check_rule []) {fx_require : Addr} {fdx_require : FuncData} (X_require : FnOk P w K mg base (L2.CX P w) 4 fx_require fdx_require p_require (spReq C)) (m_require : mg "require" = some (.ref fx_require)) (k_require : PySem.W.keepIn K (.ref fx_require) = true) (b_require : Binds K fdx_require p_require []) :
    FnOk P w K mg base (L2.CX P w) 10 f fd p_check_continuing (spRef K C RcCo) := by
  refine F.okX sc_check_continuing (fun vs H Q E h => by obtain ⟨ds, nm, hb, hd, _⟩ := h; rw [hb.len, RcCo_len hd]; rfl) (fun cdv A outer s H vs Q E hr h => ⟨_, (pss_cons (ps_expr (pe_call X_check_rule (hr.mono (by decide)) rfl m_check_rule k_check_rule b_check_rule .nil (passes_call (E := E) (takes_of rfl rfl rfl rfl) (fun _ _ _ _ h => h)) (pa_cons (pv 0) (pa_cons (pv 1) (pa_cons (pv 2) pa_nil)))))
      (pss_one (ps_expr (pe_call X_require (hr.mono (by decide)) rfl m_require k_require b_require .nil (passes_call (E := E) (takes_of rfl rfl rfl rfl) (fun _ _ _ _ h => h)) (pa_cons (pe_cal (cal_up0 c_is_allocation) (hr.mono (by decide)) rfl passL (pa_cons (pv 3) (pa_cons (pv 0) (pa_cons (pv 1) pa_nil)))) (pa_cons pe_str pa_nil)))))), run_ref (N := n_check_continuing) (C := C) (fun ds nm hd hE => ?_) h⟩)
  obtain ⟨x, y, z, a, rfl, hd | ⟨R, v, b, rfl, rfl, rfl, h, ⟨sa, ha⟩, rfl⟩⟩ := hd
  · exact x_seq (x_dropE (x_ref (a_cons (d_var rfl) (a_cons (d_var rfl) (a_cons (d_var rfl) a_nil))) hd hE))
  · refine x_drop (x_good (k := .v) (d := .none) (a_cons (d_var rfl) (a_cons (d_var rfl) (a_cons (d_var rfl) a_nil))) ⟨R, v, b, rfl, h, rfl, rfl⟩) ?_
    exact xl_req (by decide) hE (d_call (k := .v) (d := .bool false) (a_cons (d_var rfl) (a_cons (d_var rfl) (a_cons (d_var rfl) a_nil))) ⟨a, (v : Int), (b : Int), rfl, sa, rfl, by rw [ha]⟩)

theorem ok_allowed_variantsX {P : Program} {w : World} {K : PySem.W.Frag} {mg : Str → Option Value} {base : Heap} {f C : Addr} {fd : FuncData} (F : Fun K "allowed_variants" "allowed_variants" s_allowed_variants f fd) (T : Txt mg) (c_allowed_for_all : Cal P w K mg base CX0 2 "allowed_for_all" p_allowed_for_all (sp_allowed_for_all K)) {fx_check_continuing : Addr} {fdx_check_continuing : FuncData} (X_check_continuing : FnOk P w K mg base (L2.CX P w) 10 fx_check_continuing fdx_check_continuing p_check_continuing (spDR K C (sp_check_continuing K) RcCo)) (m_check_continuing : mg "check_continuing" = some (.ref fx_check_continuing)) (k_check_continuing : PySem.W.keepIn K (.ref fx_check_continuing) = true) (b_check_continuing : Binds K fdx_check_continuing p_check_continuing []) :
    FnOk P w K mg base (L2.CX P w) 11 f fd p_allowed_variants (spRef K C RcCo) := by
  refine F.okX sc_allowed_variants (fun vs H Q E h => by obtain ⟨ds, nm, hb, hd, _⟩ := h; rw [hb.len, RcCo_len hd]; rfl) (fun cdv A outer s H vs Q E hr h => ⟨_, (pss_cons (ps_expr (pe_call X_check_continuing (hr.mono (by decide)) rfl m_check_continuing k_check_continuing b_check_continuing .nil (passes_call (E := E) (takes_of rfl rfl rfl rfl) (fun _ _ _ _ h => h)) (pa_cons (pv 0) (pa_cons (pv 1) (pa_cons (pv 2) (pa_cons (pv 3) pa_nil))))))
      (pss_one (ps_ret (pe_cal (cal_up0 c_allowed_for_all) (hr.mono (by decide)) rfl passL (pa_cons (pv 0) (pa_cons (pv 1) (pa_cons (pv 2) (pa_cons (pv 3) pa_nil)))))))), run_ref (N := n_allowed_variants) (C := C) (fun ds nm hd hE => ?_) h⟩)
  obtain ⟨x, y, z, a, e, _⟩ := id hd
  subst e
  exact x_seq (x_dropE (x_ref (a_cons (d_var rfl) (a_cons (d_var rfl) (a_cons (d_var rfl) (a_cons (d_var rfl) a_nil)))) hd hE))

theorem ok_continuationX {P : Program} {w : World} {K : PySem.W.Frag} {mg : Str → Option Value} {base : Heap} {f C : Addr} {fd : FuncData} (F : Fun K "continuation" "continuation" s_continuation f fd) (T : Txt mg) (c_first_fit : Cal P w K mg base CX0 3 "first_fit" p_first_fit (sp_first_fit K)) (c_first_left : Cal P w K mg base CX0 2 "first_left" p_first_left (sp_first_left K)) (c_allowed_for_all : Cal P w K mg base CX0 2 "allowed_for_all" p_allowed_for_all (sp_allowed_for_all K)) {fx_check_continuing : Addr} {fdx_check_continuing : FuncData} (X_check_continuing : FnOk P w K mg base (L2.CX P w) 10 fx_check_continuing fdx_check_continuing p_check_continuing (spDR K C (sp_check_continuing K) RcCo)) (m_check_continuing : mg "check_continuing" = some (.ref fx_check_continuing)) (k_check_continuing : PySem.W.keepIn K (.ref fx_check_continuing) = true) (b_check_continuing : Binds K fdx_check_continuing p_check_continuing []) :
    FnOk P w K mg base (L2.CX P w) 11 f fd p_continuation (spRef K C RcCo) := by
  refine F.okX sc_continuation (fun vs H Q E h => by obtain ⟨ds, nm, hb, hd, _⟩ := h; rw [hb.len, RcCo_len hd]; rfl) (fun cdv A outer s H vs Q E hr h => ⟨_, (pss_cons (ps_expr (pe_call X_check_continuing (hr.mono (by decide)) rfl m_check_continuing k_check_continuing b_check_continuing .nil (passes_call (E := E) (takes_of rfl rfl rfl rfl) (fun _ _ _ _ h => h)) (pa_cons (pv 0) (pa_cons (pv 1) (pa_cons (pv 2) (pa_cons (pv 3) pa_nil))))))
      (pss_cons (ps_if (pt_cmpR op_notN (pe_cal (cal_up0 c_first_left) (hr.mono (by decide)) rfl passL (pa_cons (pv 2) (pa_cons (pv 1) pa_nil))) pe_non (nomark _)) (pss_one (ps_ret pe_non)) pss_nil)
      (pss_one (ps_ret (pe_cal (cal_up0 c_first_fit) (hr.mono (by decide)) rfl passL (pa_cons (pv 3) (pa_cons (pe_cal (cal_up0 c_allowed_for_all) (hr.mono (by decide)) rfl passL (pa_cons (pv 0) (pa_cons (pv 1) (pa_cons (pv 2) (pa_cons (pv 3) pa_nil))))) pa_nil))))))), run_ref (N := n_continuation) (C := C) (fun ds nm hd hE => ?_) h⟩)
  obtain ⟨x, y, z, a, e, _⟩ := id hd
  subst e
  exact x_seq (x_dropE (x_ref (a_cons (d_var rfl) (a_cons (d_var rfl) (a_cons (d_var rfl) (a_cons (d_var rfl) a_nil)))) hd hE))

theorem ok_why_noneX {P : Program} {w : World} {K : PySem.W.Frag} {mg : Str → Option Value} {base : Heap} {f C : Addr} {fd : FuncData} (F : Fun K "why_none" "why_none" s_why_none f fd) (T : Txt mg) (c_first_left : Cal P w K mg base CX0 2 "first_left" p_first_left (sp_first_left K)) (c_first_shortage : Cal P w K mg base CX0 3 "first_shortage" p_first_shortage (sp_first_shortage K)) (c_allowed_for_all : Cal P w K mg base CX0 2 "allowed_for_all" p_allowed_for_all (sp_allowed_for_all K)) {fx_check_continuing : Addr} {fdx_check_continuing : FuncData} (X_check_continuing : FnOk P w K mg base (L2.CX P w) 10 fx_check_continuing fdx_check_continuing p_check_continuing (spDR K C (sp_check_continuing K) RcCo)) (m_check_continuing : mg "check_continuing" = some (.ref fx_check_continuing)) (k_check_continuing : PySem.W.keepIn K (.ref fx_check_continuing) = true) (b_check_continuing : Binds K fdx_check_continuing p_check_continuing []) :
    FnOk P w K mg base (L2.CX P w) 11 f fd p_why_none (spRef K C RcCo) := by
  refine F.okX sc_why_none (fun vs H Q E h => by obtain ⟨ds, nm, hb, hd, _⟩ := h; rw [hb.len, RcCo_len hd]; rfl) (fun cdv A outer s H vs Q E hr h => ⟨_, (pss_cons (ps_expr (pe_call X_check_continuing (hr.mono (by decide)) rfl m_check_continuing k_check_continuing b_check_continuing .nil (passes_call (E := E) (takes_of rfl rfl rfl rfl) (fun _ _ _ _ h => h)) (pa_cons (pv 0) (pa_cons (pv 1) (pa_cons (pv 2) (pa_cons (pv 3) pa_nil))))))
      (pss_cons (ps_set (i := 4) sc_why_none.nd rfl (Or.inl rfl) (pe_cal (cal_up0 c_first_left) (hr.mono (by decide)) rfl passL (pa_cons (pv 2) (pa_cons (pv 1) pa_nil))))
      (pss_cons (ps_if (pt_cmpR op_notN (pv 4) pe_non (nomark _)) (pss_one (ps_ret (pe_op (k_add (K := K) rfl) (pe_tupN (pa_cons pe_str pa_nil)) (pv 4)))) pss_nil)
      (pss_cons (ps_set (i := 5) sc_why_none.nd rfl (Or.inl rfl) (pe_cal (cal_up0 c_first_shortage) (hr.mono (by decide)) rfl passL (pa_cons (pv 3) (pa_cons (pe_cal (cal_up0 c_allowed_for_all) (hr.mono (by decide)) rfl passL (pa_cons (pv 0) (pa_cons (pv 1) (pa_cons (pv 2) (pa_cons (pv 3) pa_nil))))) pa_nil))))
      (pss_one (ps_ret (pe_ifExp (pt_cmpR op_isN (pv 5) pe_non (nomark _)) pe_non (pe_op (k_add (K := K) rfl) (pe_tupN (pa_cons pe_str pa_nil)) (pv 5))))))))), run_ref (N := n_why_none) (C := C) (fun ds nm hd hE => ?_) h⟩)
  obtain ⟨x, y, z, a, e, _⟩ := id hd
  subst e
  exact x_seq (x_dropE (x_ref (a_cons (d_var rfl) (a_cons (d_var rfl) (a_cons (d_var rfl) (a_cons (d_var rfl) a_nil)))) hd hE))

theorem ok_accepts_noneX {P : Program} {w : World} {K : PySem.W.Frag} {mg : Str → Option Value} {base : Heap} {f C : Addr} {fd : FuncData} (F : Fun K "accepts_none" "accepts_none" s_accepts_none f fd) (T : Txt mg) (c_is_shortage : Cal P w K mg base CX0 4 "is_shortage" p_is_shortage (sp_is_shortageX K)) (c_is_needless : Cal P w K mg base CX0 2 "is_needless" p_is_needless (sp_is_needlessX K)) (c_allowed_for_all : Cal P w K mg base CX0 2 "allowed_for_all" p_allowed_for_all (sp_allowed_for_all K)) {fx_check_continuing : Addr} {fdx_check_continuing : FuncData} (X_check_continuing : FnOk P w K mg base (L2.CX P w) 10 fx_check_continuing fdx_check_continuing p_check_continuing (spDR K C (sp_check_continuing K) RcCo)) (m_check_continuing : mg "check_continuing" = some (.ref fx_check_continuing)) (k_check_continuing : PySem.W.keepIn K (.ref fx_check_continuing) = true) (b_check_continuing : Binds K fdx_check_continuing p_check_continuing []) :
    FnOk P w K mg base (L2.CX P w) 11 f fd p_accepts_none (spRef K C RcC5) := by
  refine F.okX sc_accepts_none (fun vs H Q E h => by obtain ⟨ds, nm, hb, hd, _⟩ := h; rw [hb.len, RcC5_len hd]; rfl) (fun cdv A outer s H vs Q E hr h => ⟨_, (pss_cons (ps_expr (pe_call X_check_continuing (hr.mono (by decide)) rfl m_check_continuing k_check_continuing b_check_continuing .nil (passes_call (E := E) (takes_of rfl rfl rfl rfl) (fun _ _ _ _ h => h)) (pa_cons (pv 0) (pa_cons (pv 1) (pa_cons (pv 2) (pa_cons (pv 3) pa_nil))))))
      (pss_cons (ps_if (PW.pt (pw_or (pt_not (pt_val (pe_callB (k_isi (K := K) rfl) rfl T.b_isinstance (by decide +kernel) (pa_cons (pv 4) (pa_cons (pe_ty (n := "tuple") rfl T.b_tuple (by decide +kernel)) pa_nil))))) (pw_or1 (pt_cmpR (k_eq (K := K) rfl (rUnits hr)) (pe_callB (k_len (K := K) rfl) rfl T.b_len (by decide +kernel) (pa_cons (pv 4) pa_nil)) pe_int (nomark _))))) (pss_one (ps_ret pe_bl)) pss_nil)
      (pss_cons (ps_if (pt_cmpR (k_eq (K := K) rfl (rUnits hr)) (pe_ix (k_ix (K := K) rfl) (pv 4) pe_int (fun _ _ => rfl)) pe_str (nomark _)) (pss_one (ps_ret (pe_cal (cal_up0 c_is_needless) (hr.mono (by decide)) rfl passL (pa_cons (pv 1) (pa_cons (pv 2) (pa_cons (pe_slice (k_slT (K := K) rfl) (pv 4) (po_some pe_int) po_none) pa_nil)))))) pss_nil)
      (pss_cons (ps_if (pt_cmpR (k_ne (K := K) rfl (rUnits hr)) (pe_ix (k_ix (K := K) rfl) (pv 4) pe_int (fun _ _ => rfl)) pe_str (nomark _)) (pss_one (ps_ret pe_bl)) pss_nil)
      (pss_one (ps_ret (pe_cal (cal_up0 c_is_shortage) (hr.mono (by decide)) rfl passL (pa_cons (pv 3) (pa_cons (pe_cal (cal_up0 c_allowed_for_all) (hr.mono (by decide)) rfl passL (pa_cons (pv 0) (pa_cons (pv 1) (pa_cons (pv 2) (pa_cons (pv 3) pa_nil))))) (pa_cons (pe_slice (k_slT (K := K) rfl) (pv 4) (po_some pe_int) po_none) pa_nil)))))))))), run_ref (N := n_accepts_none) (C := C) (fun ds nm hd hE => ?_) h⟩)
  obtain ⟨x, y, z, a, l, rfl, hd⟩ := hd
  exact x_seq (x_dropE (x_ref (a_cons (d_var rfl) (a_cons (d_var rfl) (a_cons (d_var rfl) (a_cons (d_var rfl) a_nil)))) hd hE))

theorem ok__law_askX {P : Program} {w : World} {K : PySem.W.Frag} {mg : Str → Option Value} {base : Heap} {f C : Addr} {fd : FuncData} (F : Fun K "_law_ask" "_law_ask" s__law_ask f fd) (T : Txt mg) {fx_missing : Addr} {fdx_missing : FuncData} (X_missing : FnOk P w K mg base (L2.CX P w) 10 fx_missing fdx_missing p_missing (spDR K C (sp_missing K) RcRu)) (m_missing : mg "missing" = some (.ref fx_missing)) (k_missing : PySem.W.keepIn K (.ref fx_missing) = true) (b_missing : Binds K fdx_missing p_missing []) {fx_needless_leave : Addr} {fdx_needless_leave : FuncData} (X_needless_leave : FnOk P w K mg base (L2.CX P w) 10 fx_needless_leave fdx_needless_leave p_needless_leave (spDR K C (sp_needless_leave K) RcRu)) (m_needless_leave : mg "needless_leave" = some (.ref fx_needless_leave)) (k_needless_leave : PySem.W.keepIn K (.ref fx_needless_leave) = true) (b_needless_leave : Binds K fdx_needless_leave p_needless_leave []) {fx_lists_of_rule : Addr} {fdx_lists_of_rule : FuncData} (X_lists_of_rule : FnOk P w K mg base (L2.CX P w) 11 fx_lists_of_rule fdx_lists_of_rule p_lists_of_rule (spDR K C (sp_lists_of_rule K) RcRu)) (m_lists_of_rule : mg "lists_of_rule" = some (.ref fx_lists_of_rule)) (k_lists_of_rule : PySem.W.keepIn K (.ref fx_lists_of_rule) = true) (b_lists_of_rule : Binds K fdx_lists_of_rule p_lists_of_rule []) {fx_serves_rule : Addr} {fdx_serves_rule : FuncData} (X_serves_rule : FnOk P w K mg base (L2.CX P w) 10 fx_serves_rule fdx_serves_rule p_serves_rule (spDR K C (sp_serves_ruleX K) RcS4)) (m_serves_rule : mg "serves_rule" = some (.ref fx_serves_rule)) (k_serves_rule : PySem.W.keepIn K (.ref fx_serves_rule) = true) (b_serves_rule : Binds K fdx_serves_rule p_serves_rule []) {fx_most_waste : Addr} {fdx_most_waste : FuncData} (X_most_waste : FnOk P w K mg base (L2.CX P w) 10 fx_most_waste fdx_most_waste p_most_waste (spDR K C (sp_most_waste K) RcRu)) (m_most_waste : mg "most_waste" = some (.ref fx_most_waste)) (k_most_waste : PySem.W.keepIn K (.ref fx_most_waste) = true) (b_most_waste : Binds K fdx_most_waste p_most_waste []) {fx_leaves : Addr} {fdx_leaves : FuncData} (X_leaves : FnOk P w K mg base (L2.CX P w) 10 fx_leaves fdx_leaves p_leaves (spDR K C (sp_leaves K) RcLe)) (m_leaves : mg "leaves" = some (.ref fx_leaves)) (k_leaves : PySem.W.keepIn K (.ref fx_leaves) = true) (b_leaves : Binds K fdx_leaves p_leaves []) {fx_allowed_variants : Addr} {fdx_allowed_variants : FuncData} (X_allowed_variants : FnOk P w K mg base (L2.CX P w) 11 fx_allowed_variants fdx_allowed_variants p_allowed_variants (spDR K C (sp_allowed_variants K) RcCo)) (m_allowed_variants : mg "allowed_variants" = some (.ref fx_allowed_variants)) (k_allowed_variants : PySem.W.keepIn K (.ref fx_allowed_variants) = true) (b_allowed_variants : Binds K fdx_allowed_variants p_allowed_variants []) {fx_continuation : Addr} {fdx_continuation : FuncData} (X_continuation : FnOk P w K mg base (L2.CX P w) 11 fx_continuation fdx_continuation p_continuation (spDR K C (sp_continuation K) RcCo)) (m_continuation : mg "continuation" = some (.ref fx_continuation)) (k_continuation : PySem.W.keepIn K (.ref fx_continuation) = true) (b_continuation : Binds K fdx_continuation p_continuation []) {fx_why_none : Addr} {fdx_why_none : FuncData} (X_why_none : FnOk P w K mg base (L2.CX P w) 11 fx_why_none fdx_why_none p_why_none (spDR K C (sp_why_none K) RcCo)) (m_why_none : mg "why_none" = some (.ref fx_why_none)) (k_why_none : PySem.W.keepIn K (.ref fx_why_none) = true) (b_why_none : Binds K fdx_why_none p_why_none []) {fx_accepts_none : Addr} {fdx_accepts_none : FuncData} (X_accepts_none : FnOk P w K mg base (L2.CX P w) 11 fx_accepts_none fdx_accepts_none p_accepts_none (spDR K C (sp_accepts_noneX K) RcC5)) (m_accepts_none : mg "accepts_none" = some (.ref fx_accepts_none)) (k_accepts_none : PySem.W.keepIn K (.ref fx_accepts_none) = true) (b_accepts_none : Binds K fdx_accepts_none p_accepts_none []) :
    FnOk P w K mg base (L2.CX P w) 12 f fd p__law_ask (spRef K C RcAsk) := by
  refine F.okX sc__law_ask (fun vs H Q E h => by obtain ⟨ds, nm, hb, hd, _⟩ := h; rw [hb.len, RcAsk_len hd]; rfl) (fun cdv A outer s H vs Q E hr h => ⟨_, (pss_cons (ps_if (pt_cmpR (k_eq (K := K) rfl (rUnits hr)) (pv 0) pe_int (nomark _)) (pss_one (ps_ret (pe_call X_missing (hr.mono (by decide)) rfl m_missing k_missing b_missing .nil (passes_call (E := E) (takes_of rfl rfl rfl rfl) (fun _ _ _ _ h => h)) (pa_cons (pe_ix (k_ix (K := K) rfl) (pv 1) pe_int (fun _ _ => rfl)) (pa_cons (pe_ix (k_ix (K := K) rfl) (pv 1) pe_int (fun _ _ => rfl)) (pa_cons (pe_ix (k_ix (K := K) rfl) (pv 1) pe_int (fun _ _ => rfl)) pa_nil)))))) pss_nil)
      (pss_cons (ps_if (pt_cmpR (k_eq (K := K) rfl (rUnits hr)) (pv 0) pe_int (nomark _)) (pss_one (ps_ret (pe_call X_needless_leave (hr.mono (by decide)) rfl m_needless_leave k_needless_leave b_needless_leave .nil (passes_call (E := E) (takes_of rfl rfl rfl rfl) (fun _ _ _ _ h => h)) (pa_cons (pe_ix (k_ix (K := K) rfl) (pv 1) pe_int (fun _ _ => rfl)) (pa_cons (pe_ix (k_ix (K := K) rfl) (pv 1) pe_int (fun _ _ => rfl)) (pa_cons (pe_ix (k_ix (K := K) rfl) (pv 1) pe_int (fun _ _ => rfl)) pa_nil)))))) pss_nil)
      (pss_cons (ps_if (pt_cmpR (k_eq (K := K) rfl (rUnits hr)) (pv 0) pe_int (nomark _)) (pss_one (ps_ret (pe_call X_lists_of_rule (hr.mono (by decide)) rfl m_lists_of_rule k_lists_of_rule b_lists_of_rule .nil (passes_call (E := E) (takes_of rfl rfl rfl rfl) (fun _ _ _ _ h => h)) (pa_cons (pe_ix (k_ix (K := K) rfl) (pv 1) pe_int (fun _ _ => rfl)) (pa_cons (pe_ix (k_ix (K := K) rfl) (pv 1) pe_int (fun _ _ => rfl)) (pa_cons (pe_ix (k_ix (K := K) rfl) (pv 1) pe_int (fun _ _ => rfl)) pa_nil)))))) pss_nil)
      (pss_cons (ps_if (pt_cmpR (k_eq (K := K) rfl (rUnits hr)) (pv 0) pe_int (nomark _)) (pss_one (ps_ret (pe_call X_serves_rule (hr.mono (by decide)) rfl m_serves_rule k_serves_rule b_serves_rule .nil (passes_call (E := E) (takes_of rfl rfl rfl rfl) (fun _ _ _ _ h => h)) (pa_cons (pe_ix (k_ix (K := K) rfl) (pv 1) pe_int (fun _ _ => rfl)) (pa_cons (pe_ix (k_ix (K := K) rfl) (pv 1) pe_int (fun _ _ => rfl)) (pa_cons (pe_ix (k_ix (K := K) rfl) (pv 1) pe_int (fun _ _ => rfl)) (pa_cons pe_non pa_nil))))))) pss_nil)
      (pss_cons (ps_if (pt_cmpR (k_eq (K := K) rfl (rUnits hr)) (pv 0) pe_int (nomark _)) (pss_one (ps_ret (pe_call X_most_waste (hr.mono (by decide)) rfl m_most_waste k_most_waste b_most_waste .nil (passes_call (E := E) (takes_of rfl rfl rfl rfl) (fun _ _ _ _ h => h)) (pa_cons (pe_ix (k_ix (K := K) rfl) (pv 1) pe_int (fun _ _ => rfl)) (pa_cons (pe_ix (k_ix (K := K) rfl) (pv 1) pe_int (fun _ _ => rfl)) (pa_cons (pe_ix (k_ix (K := K) rfl) (pv 1) pe_int (fun _ _ => rfl)) pa_nil)))))) pss_nil)
      (pss_cons (ps_if (pt_cmpR (k_eq (K := K) rfl (rUnits hr)) (pv 0) pe_int (nomark _)) (pss_one (ps_ret (pe_call X_leaves (hr.mono (by decide)) rfl m_leaves k_leaves b_leaves .nil (passes_call (E := E) (takes_of rfl rfl rfl rfl) (fun _ _ _ _ h => h)) (pa_cons (pe_ix (k_ix (K := K) rfl) (pv 1) pe_int (fun _ _ => rfl)) (pa_cons (pe_ix (k_ix (K := K) rfl) (pv 1) pe_int (fun _ _ => rfl)) (pa_cons (pe_ix (k_ix (K := K) rfl) (pv 1) pe_int (fun _ _ => rfl)) (pa_cons (pe_ix (k_ix (K := K) rfl) (pv 1) pe_int (fun _ _ => rfl)) (pa_cons (pe_ix (k_ix (K := K) rfl) (pv 1) pe_int (fun _ _ => rfl)) (pa_cons (pe_ix (k_ix (K := K) rfl) (pv 1) pe_int (fun _ _ => rfl)) pa_nil))))))))) pss_nil)
      (pss_cons (ps_if (pt_cmpR (k_eq (K := K) rfl (rUnits hr)) (pv 0) pe_int (nomark _)) (pss_one (ps_ret (pe_call X_allowed_variants (hr.mono (by decide)) rfl m_allowed_variants k_allowed_variants b_allowed_variants .nil (passes_call (E := E) (takes_of rfl rfl rfl rfl) (fun _ _ _ _ h => h)) (pa_cons (pe_ix (k_ix (K := K) rfl) (pv 1) pe_int (fun _ _ => rfl)) (pa_cons (pe_ix (k_ix (K := K) rfl) (pv 1) pe_int (fun _ _ => rfl)) (pa_cons (pe_ix (k_ix (K := K) rfl) (pv 1) pe_int (fun _ _ => rfl)) (pa_cons (pe_ix (k_ix (K := K) rfl) (pv 1) pe_int (fun _ _ => rfl)) pa_nil))))))) pss_nil)
      (pss_cons (ps_if (pt_cmpR (k_eq (K := K) rfl (rUnits hr)) (pv 0) pe_int (nomark _)) (pss_one (ps_ret (pe_call X_continuation (hr.mono (by decide)) rfl m_continuation k_continuation b_continuation .nil (passes_call (E := E) (takes_of rfl rfl rfl rfl) (fun _ _ _ _ h => h)) (pa_cons (pe_ix (k_ix (K := K) rfl) (pv 1) pe_int (fun _ _ => rfl)) (pa_cons (pe_ix (k_ix (K := K) rfl) (pv 1) pe_int (fun _ _ => rfl)) (pa_cons (pe_ix (k_ix (K := K) rfl) (pv 1) pe_int (fun _ _ => rfl)) (pa_cons (pe_ix (k_ix (K := K) rfl) (pv 1) pe_int (fun _ _ => rfl)) pa_nil))))))) pss_nil)
      (pss_cons (ps_if (pt_cmpR (k_eq (K := K) rfl (rUnits hr)) (pv 0) pe_int (nomark _)) (pss_one (ps_ret (pe_call X_why_none (hr.mono (by decide)) rfl m_why_none k_why_none b_why_none .nil (passes_call (E := E) (takes_of rfl rfl rfl rfl) (fun _ _ _ _ h => h)) (pa_cons (pe_ix (k_ix (K := K) rfl) (pv 1) pe_int (fun _ _ => rfl)) (pa_cons (pe_ix (k_ix (K := K) rfl) (pv 1) pe_int (fun _ _ => rfl)) (pa_cons (pe_ix (k_ix (K := K) rfl) (pv 1) pe_int (fun _ _ => rfl)) (pa_cons (pe_ix (k_ix (K := K) rfl) (pv 1) pe_int (fun _ _ => rfl)) pa_nil))))))) pss_nil)
      (pss_one (ps_ret (pe_call X_accepts_none (hr.mono (by decide)) rfl m_accepts_none k_accepts_none b_accepts_none .nil (passes_call (E := E) (takes_of rfl rfl rfl rfl) (fun _ _ _ _ h => h)) (pa_cons (pe_ix (k_ix (K := K) rfl) (pv 1) pe_int (fun _ _ => rfl)) (pa_cons (pe_ix (k_ix (K := K) rfl) (pv 1) pe_int (fun _ _ => rfl)) (pa_cons (pe_ix (k_ix (K := K) rfl) (pv 1) pe_int (fun _ _ => rfl)) (pa_cons (pe_ix (k_ix (K := K) rfl) (pv 1) pe_int (fun _ _ => rfl)) (pa_cons pe_non pa_nil))))))))))))))))), run_ref (N := n__law_ask) (C := C) (fun ds nm hd hE => ?_) h⟩)
  obtain ⟨w, row, rfl, hw, hc⟩ := hd
  have ix : ∀ (j : Nat) (z : PyData), row[j]? = some z → Ev (pc K) (tOp (rIx K) (tVar 1) (tC (.int (j : Int)))) (argsG [.int (w : Int), .list row] n__law_ask.length) .v z := fun j z hz => e_ixLv (d_var rfl) d_int (atI_nat hz)
  have i0 := ix 0
  have i1 := ix 1
  have i2 := ix 2
  have i3 := ix 3
  have i4 := ix 4
  have i5 := ix 5
  clear ix
  rcases hc with ⟨hw5, hc⟩ | ⟨rfl, hc⟩ | ⟨h6, hc⟩
  · obtain ⟨x, y, z, rfl, _⟩ := id hc
    match w, hw5 with
    | 0, _ => exact (x_take (EvT.to (t_test (e_eqI (d_var rfl) d_int)) rfl) (x_retE (x_ref (a_cons (i0 _ rfl) (a_cons (i1 _ rfl) (a_cons (i2 _ rfl) a_nil))) hc hE)))
    | 1, _ => exact (x_skip (EvT.to (t_test (e_eqI (d_var rfl) d_int)) rfl) (x_take (EvT.to (t_test (e_eqI (d_var rfl) d_int)) rfl) (x_retE (x_ref (a_cons (i0 _ rfl) (a_cons (i1 _ rfl) (a_cons (i2 _ rfl) a_nil))) hc hE))))
    | 2, _ => exact (x_skip (EvT.to (t_test (e_eqI (d_var rfl) d_int)) rfl) (x_skip (EvT.to (t_test (e_eqI (d_var rfl) d_int)) rfl) (x_take (EvT.to (t_test (e_eqI (d_var rfl) d_int)) rfl) (x_retE (x_ref (a_cons (i0 _ rfl) (a_cons (i1 _ rfl) (a_cons (i2 _ rfl) a_nil))) hc hE)))))
    | 3, _ => exact (x_skip (EvT.to (t_test (e_eqI (d_var rfl) d_int)) rfl) (x_skip (EvT.to (t_test (e_eqI (d_var rfl) d_int)) rfl) (x_skip (EvT.to (t_test (e_eqI (d_var rfl) d_int)) rfl) (x_take (EvT.to (t_test (e_eqI (d_var rfl) d_int)) rfl) (x_retE (x_ref (a_cons (i0 _ rfl) (a_cons (i1 _ rfl) (a_cons (i2 _ rfl) (a_cons d_non a_nil)))) ⟨x, y, z, .none, rfl, hc⟩ hE))))))
    | 4, _ => exact (x_skip (EvT.to (t_test (e_eqI (d_var rfl) d_int)) rfl) (x_skip (EvT.to (t_test (e_eqI (d_var rfl) d_int)) rfl) (x_skip (EvT.to (t_test (e_eqI (d_var rfl) d_int)) rfl) (x_skip (EvT.to (t_test (e_eqI (d_var rfl) d_int)) rfl) (x_take (EvT.to (t_test (e_eqI (d_var rfl) d_int)) rfl) (x_retE (x_ref (a_cons (i0 _ rfl) (a_cons (i1 _ rfl) (a_cons (i2 _ rfl) a_nil))) hc hE)))))))
    | w + 5, h => omega
  · obtain ⟨x, y, z, f, s, u, rfl, _⟩ := id hc
    exact (x_skip (EvT.to (t_test (e_eqI (d_var rfl) d_int)) rfl) (x_skip (EvT.to (t_test (e_eqI (d_var rfl) d_int)) rfl) (x_skip (EvT.to (t_test (e_eqI (d_var rfl) d_int)) rfl) (x_skip (EvT.to (t_test (e_eqI (d_var rfl) d_int)) rfl) (x_skip (EvT.to (t_test (e_eqI (d_var rfl) d_int)) rfl) (x_take (EvT.to (t_test (e_eqI (d_var rfl) d_int)) rfl) (x_retE (x_ref (a_cons (i0 _ rfl) (a_cons (i1 _ rfl) (a_cons (i2 _ rfl) (a_cons (i3 _ rfl) (a_cons (i4 _ rfl) (a_cons (i5 _ rfl) a_nil)))))) hc hE))))))))
  · obtain ⟨x, y, z, a, rfl, _⟩ := id hc
    match w, h6, hw with
    | 6, _, _ => exact (x_skip (EvT.to (t_test (e_eqI (d_var rfl) d_int)) rfl) (x_skip (EvT.to (t_test (e_eqI (d_var rfl) d_int)) rfl) (x_skip (EvT.to (t_test (e_eqI (d_var rfl) d_int)) rfl) (x_skip (EvT.to (t_test (e_eqI (d_var rfl) d_int)) rfl) (x_skip (EvT.to (t_test (e_eqI (d_var rfl) d_int)) rfl) (x_skip (EvT.to (t_test (e_eqI (d_var rfl) d_int)) rfl) (x_take (EvT.to (t_test (e_eqI (d_var rfl) d_int)) rfl) (x_retE (x_ref (a_cons (i0 _ rfl) (a_cons (i1 _ rfl) (a_cons (i2 _ rfl) (a_cons (i3 _ rfl) a_nil)))) hc hE)))))))))
    | 7, _, _ => exact (x_skip (EvT.to (t_test (e_eqI (d_var rfl) d_int)) rfl) (x_skip (EvT.to (t_test (e_eqI (d_var rfl) d_int)) rfl) (x_skip (EvT.to (t_test (e_eqI (d_var rfl) d_int)) rfl) (x_skip (EvT.to (t_test (e_eqI (d_var rfl) d_int)) rfl) (x_skip (EvT.to (t_test (e_eqI (d_var rfl) d_int)) rfl) (x_skip (EvT.to (t_test (e_eqI (d_var rfl) d_int)) rfl) (x_skip (EvT.to (t_test (e_eqI (d_var rfl) d_int)) rfl) (x_take (EvT.to (t_test (e_eqI (d_var rfl) d_int)) rfl) (x_retE (x_ref (a_cons (i0 _ rfl) (a_cons (i1 _ rfl) (a_cons (i2 _ rfl) (a_cons (i3 _ rfl) a_nil)))) hc hE))))))))))
    | 8, _, _ => exact (x_skip (EvT.to (t_test (e_eqI (d_var rfl) d_int)) rfl) (x_skip (EvT.to (t_test (e_eqI (d_var rfl) d_int)) rfl) (x_skip (EvT.to (t_test (e_eqI (d_var rfl) d_int)) rfl) (x_skip (EvT.to (t_test (e_eqI (d_var rfl) d_int)) rfl) (x_skip (EvT.to (t_test (e_eqI (d_var rfl) d_int)) rfl) (x_skip (EvT.to (t_test (e_eqI (d_var rfl) d_int)) rfl) (x_skip (EvT.to (t_test (e_eqI (d_var rfl) d_int)) rfl) (x_skip (EvT.to (t_test (e_eqI (d_var rfl) d_int)) rfl) (x_take (EvT.to (t_test (e_eqI (d_var rfl) d_int)) rfl) (x_retE (x_ref (a_cons (i0 _ rfl) (a_cons (i1 _ rfl) (a_cons (i2 _ rfl) (a_cons (i3 _ rfl) a_nil)))) hc hE)))))))))))
    | 9, _, _ => exact (x_skip (EvT.to (t_test (e_eqI (d_var rfl) d_int)) rfl) (x_skip (EvT.to (t_test (e_eqI (d_var rfl) d_int)) rfl) (x_skip (EvT.to (t_test (e_eqI (d_var rfl) d_int)) rfl) (x_skip (EvT.to (t_test (e_eqI (d_var rfl) d_int)) rfl) (x_skip (EvT.to (t_test (e_eqI (d_var rfl) d_int)) rfl) (x_skip (EvT.to (t_test (e_eqI (d_var rfl) d_int)) rfl) (x_skip (EvT.to (t_test (e_eqI (d_var rfl) d_int)) rfl) (x_skip (EvT.to (t_test (e_eqI (d_var rfl) d_int)) rfl) (x_skip (EvT.to (t_test (e_eqI (d_var rfl) d_int)) rfl) (x_retE (x_ref (a_cons (i0 _ rfl) (a_cons (i1 _ rfl) (a_cons (i2 _ rfl) (a_cons (i3 _ rfl) (a_cons d_non a_nil))))) ⟨x, y, z, a, .none, rfl, hc⟩ hE)))))))))))
    | 0, h, _ => omega
    | 1, h, _ => omega
    | 2, h, _ => omega
    | 3, h, _ => omega
    | 4, h, _ => omega
    | 5, h, _ => omega
    | w + 10, _, h => omega

theorem ok__law_toldX {P : Program} {w : World} {K : PySem.W.Frag} {mg : Str → Option Value} {base : Heap} {f C : Addr} {fd : FuncData} (F : Fun K "_law_told" "_law_told" s__law_told f fd) (T : Txt mg) (X : Exc1 P w K mg base "BadValue" "name" C) {L1 : Addr} (XH : ExcH K mg C L1) {fx__law_ask : Addr} {fdx__law_ask : FuncData} (X__law_ask : FnOk P w K mg base (L2.CX P w) 12 fx__law_ask fdx__law_ask p__law_ask (spDR K C (sp__law_ask61 K) RcAsk)) (m__law_ask : mg "_law_ask" = some (.ref fx__law_ask)) (k__law_ask : PySem.W.keepIn K (.ref fx__law_ask) = true) (b__law_ask : Binds K fdx__law_ask p__law_ask []) :
    FnOk P w K mg base (L2.CX P w) 13 f fd p__law_told (sp__law_told61 K) := by
  refine F.okX sc__law_told (fun vs H Q E h => spD_len (E := E) h (by rintro ds k d ⟨w, row, rfl, _⟩; rfl)) (fun cdv A outer s H vs Q E hr h => ⟨_, (pss_cons (ps_try_as (i := 2) (Wout := fun cls d _ H => E cls d H) rfl rfl sc__law_told.nd rfl rfl ⟨rfl, by decide, .inl XH.hL⟩ (takes_of rfl rfl rfl rfl)
    (fun W pn xe tk po => (pss_one (ps_expr (pe_callS X__law_ask (hr.mono (by decide)) rfl m__law_ask k__law_ask b__law_ask (fun σ => passAt tk σ) (pa_cons (pv 0) (pa_cons (pv 1) pa_nil))))))
    (fun a oe cls d pn hz hf => (pss_cons (ps_if (PW.pt (pw_and (pt_val (pe_callB (call_isX XH.isC hz hf) rfl T.b_isinstance (by decide +kernel) (pa_cons (pv 2) (pa_cons (pe_glob (v := .ref C) rfl X.hC rfl) pa_nil)))) (pw_and1 (pt_val (pe_callB (call_isX XH.isC hz hf) rfl T.b_isinstance (by decide +kernel) (pa_cons (pv 2) (pa_cons (pe_ty (n := "ValueError") rfl T.b_ValueError (by decide +kernel)) pa_nil))))))) (pss_one (ps_ret (pe_tupN (pa_cons pe_str (pa_cons (pe_xf X.X X.no hz hf (pv 2)) pa_nil))))) pss_nil) (pss_one (ps_ret (pe_tupN (pa_cons pe_str pa_nil))))))) (pss_one (ps_ret (pe_tupN (pa_cons pe_str pa_nil))))), ?_⟩)
  obtain ⟨ds, k', d, hb, ⟨w, row, rfl, rfl, hd⟩, q⟩ := h
  have lv : vs.length = 2 := by rw [hb.len]; rfl
  obtain ⟨x, y, rfl⟩ : ∃ x y, vs = [x, y] := match vs, lv with | [x, y], _ => ⟨x, y, rfl⟩
  rcases hd with ⟨⟨dd, hP⟩, rfl⟩ | ⟨nm, hR, rfl⟩
  · refine run_pure (K := K) (N := n__law_told) (pre := fun ds k d => ds = [.int (w : Int), .list row] ∧ k = .v ∧ d = .tuple [.str "fine"]) (E := E) (fun ds k d hp => ?_) ⟨_, _, _, hb, ⟨rfl, rfl, rfl⟩, q⟩
    obtain ⟨rfl, rfl, rfl⟩ := hp
    refine s_seqE (fun Γ1 => Γ1 = argsG [.int (w : Int), .list row] n__law_told.length) (fun H0 O Hh σ D e s => ?_) (by rintro Γ1 rfl; exact s_ret (d_tup (a_consV d_str a_nil) (by simp)) (.inr ⟨rfl, rfl⟩) (.inl rfl))
    exact (s_drop (d_callS (k := .v) (a_cons (d_var rfl) (a_cons (d_var rfl) a_nil)) ⟨w, row, rfl, hP, rfl⟩) ⟨_, rfl, rfl⟩ : Sd (pc K) (tDrop _) _ _) H0 O Hh σ D e s
  · have env := env_args (N := n__law_told) Ji.pc hb
    have fin : ∀ (dx : Addr) (H1 : Hp), Same H H1 → ∀ (p : Addr) (H2 : Hp), Same H1 H2 → TpN K H2 p [.str "bad", .str nm] → Q (.ref p) H2 := fun dx H1 sm p H2 sm2 tp => q _ _ (fun a o w => sm2 a o (sm a o w)) ⟨rfl, .tup tp (.cons (.str _) (.cons (.str _) .nil))⟩
    dsimp only [tSeq]
    refine (?_ : SdY (pc K) H (start n__law_told [x, y]) (tDrop _) _) [] H _ env
    exact y_drop (a_cons (d_var rfl) (a_cons (d_var rfl) a_nil)) hR fun dx H1 sm hdx => was_least X XH (id (by decide : (2 : Nat) < 3)) hdx (fin dx H1 sm)

end W

namespace W
open PySem PySem.Spec PyProof.Rows L2 Lm
theorem ok_law {P : Program} {w : World} {K : PySem.W.Frag} {mg : Str → Option Value} {base : Heap} {f : Addr} {fd : FuncData} (F : Fun K "law" "law" s_law f fd) (T : Txt mg) (c__law_stream : Cal P w K mg base CX0 1 "_law_stream" p__law_stream (sp__law_stream K)) (c__law_next : Cal P w K mg base CX0 1 "_law_next" p__law_next (sp__law_next K)) (c__law_named : Cal P w K mg base CX0 14 "_law_named" p__law_named (sp__law_named61 K)) :
    FnOk P w K mg base CX0 15 f fd p_law (spLaw K) := by
  refine F.ok sc_law (fun vs H Q E h => by obtain ⟨a, ns, rfl, _⟩ := h; rfl) (fun cdv A outer s H vs Q E hr h => ⟨_, (pss_cons (ps_set (i := 1) sc_law.nd rfl (Or.inl rfl) (pe_cal c__law_stream (hr.mono (by decide)) rfl pass0 (pa_cons (pv 0) pa_nil)))
      (pss_cons (ps_set (i := 2) sc_law.nd rfl (Or.inl rfl) (pe_op (k_add (K := K) rfl) pe_int (pe_cal c__law_next (hr.mono (by decide)) rfl pass0 (pa_cons (pv 1) (pa_cons pe_int pa_nil)))))
      (pss_cons (ps_set (i := 3) sc_law.nd rfl (Or.inl rfl) (pe_op (k_add (K := K) rfl) pe_int (pe_cal c__law_next (hr.mono (by decide)) rfl pass0 (pa_cons (pv 1) (pa_cons pe_int pa_nil)))))
      (pss_cons (ps_set (i := 4) sc_law.nd rfl (Or.inl rfl) (pe_op (k_repU (K := K) rfl) (pe_tupN (pa_cons pe_int pa_nil)) (pe_op op_sub (pv 2) pe_int)))
      (pss_cons (ps_set (i := 5) sc_law.nd rfl (Or.inl rfl) (pe_tupN (pa_cons (pe_tupN (pa_cons (pe_op (k_add (K := K) rfl) (pe_tupN (pa_cons (pv 3) (pa_cons pe_int pa_nil))) (pv 4)) (pa_cons (pe_op (k_repU (K := K) rfl) (pe_tupN (pa_cons pe_int pa_nil)) (pv 3)) pa_nil))) (pa_cons (pe_tupN (pa_cons (pe_op (k_add (K := K) rfl) (pe_tupN (pa_cons (pe_op op_sub (pv 3) pe_int) (pa_cons pe_int pa_nil))) (pv 4)) (pa_cons (pe_op (k_add (K := K) rfl) (pe_tupN (pa_cons pe_int pa_nil)) (pe_op (k_repU (K := K) rfl) (pe_tupN (pa_cons pe_int pa_nil)) (pe_op op_sub (pv 3) pe_int))) pa_nil))) pa_nil))))
      (pss_cons (ps_set (i := 6) sc_law.nd rfl (Or.inl rfl) (pe_lst (pa_cons (pv 2) (pa_cons (pv 3) (pa_cons (pv 5) pa_nil)))))
      (pss_cons (ps_set (i := 7) sc_law.nd rfl (Or.inl rfl) (pe_lst (pa_cons (pe_ix (k_ix (K := K) rfl) (pe_lst (pa_cons pe_int (pa_cons pe_int (pa_cons pe_bl pa_nil)))) (pe_cal c__law_next (hr.mono (by decide)) rfl pass0 (pa_cons (pv 1) (pa_cons pe_int pa_nil))) (fun _ _ => rfl)) (pa_cons (pe_ix (k_ix (K := K) rfl) (pe_lst (pa_cons (pe_un un_neg pe_int) (pa_cons pe_int (pa_cons pe_non pa_nil)))) (pe_cal c__law_next (hr.mono (by decide)) rfl pass0 (pa_cons (pv 1) (pa_cons pe_int pa_nil))) (fun _ _ => rfl)) pa_nil))))
      (pss_cons (ps_expr (k_bm (K := K) rfl PySem.F.plainAttrs_list PySem.F.slot_list_append PySem.F.type_list_append mt_append (pv 7) (pa_cons (pe_ix (k_ix (K := K) rfl) (pe_lst (pa_cons (pe_callTy (k_list (K := K) rfl) rfl T.b_list (by decide +kernel) (pa_cons (pv 5) pa_nil)) (pa_cons (pe_op (k_add (K := K) rfl) (pv 5) (pe_slice (k_slT (K := K) rfl) (pv 5) po_none (po_some pe_int))) (pa_cons (pe_tupN (pa_cons (pe_slice (k_slT (K := K) rfl) (pe_ix (k_ix (K := K) rfl) (pv 5) pe_int (fun _ _ => rfl)) po_none (po_some pe_int)) pa_nil)) (pa_cons (pe_tupN (pa_cons (pe_revT (K := K) rfl (pe_ix (k_ix (K := K) rfl) (pv 5) pe_int (fun _ _ => rfl))) pa_nil)) (pa_cons pe_non pa_nil)))))) (pe_cal c__law_next (hr.mono (by decide)) rfl pass0 (pa_cons (pv 1) (pa_cons pe_int pa_nil))) (fun _ _ => rfl)) pa_nil)))
      (pss_cons (ps_set (i := 8) sc_law.nd rfl (Or.inl rfl) (pe_lst (pa_cons pe_str (pa_cons pe_str (pa_cons pe_str pa_nil)))))
      (pss_cons (ps_for PassesOwn.never rfl (pi_range1 rfl T.b_range (pa_cons pe_int pa_nil)) (pg_name (i := 9) sc_law.nd rfl (Or.inl rfl)) (pss_one (ps_if (pt_not (pt_val (pe_cal c__law_named (hr.mono (by decide)) rfl pass0 (pa_cons (pv 1) (pa_cons (pv 9) (pa_cons (pv 8) (pa_cons (pv 6) (pa_cons (pv 7) pa_nil)))))))) (pss_one (ps_ret pe_bl)) pss_nil)))
      (pss_cons (ps_set (i := 10) sc_law.nd rfl (Or.inl rfl) (pe_lst (pa_cons (pe_cal c__law_next (hr.mono (by decide)) rfl pass0 (pa_cons (pv 1) (pa_cons pe_int pa_nil))) (pa_cons (pe_cal c__law_next (hr.mono (by decide)) rfl pass0 (pa_cons (pv 1) (pa_cons pe_int pa_nil))) (pa_cons (pe_cal c__law_next (hr.mono (by decide)) rfl pass0 (pa_cons (pv 1) (pa_cons (pv 3) pa_nil))) pa_nil)))))
      (pss_cons (ps_set (i := 11) sc_law.nd rfl (Or.inl rfl) (pe_lst (pa_cons (pe_ix (k_ix (K := K) rfl) (pe_lst (pa_cons pe_int (pa_cons (pe_un un_neg pe_int) (pa_cons pe_bl pa_nil)))) (pe_cal c__law_next (hr.mono (by decide)) rfl pass0 (pa_cons (pv 1) (pa_cons pe_int pa_nil))) (fun _ _ => rfl)) (pa_cons (pe_ix (k_ix (K := K) rfl) (pe_lst (pa_cons pe_int (pa_cons (pe_un un_neg pe_int) (pa_cons pe_non pa_nil)))) (pe_cal c__law_next (hr.mono (by decide)) rfl pass0 (pa_cons (pv 1) (pa_cons pe_int pa_nil))) (fun _ _ => rfl)) (pa_cons (pe_ix (k_ix (K := K) rfl) (pe_lst (pa_cons (pv 3) (pa_cons (pe_un un_neg pe_int) (pa_cons pe_bl pa_nil)))) (pe_cal c__law_next (hr.mono (by decide)) rfl pass0 (pa_cons (pv 1) (pa_cons pe_int pa_nil))) (fun _ _ => rfl)) pa_nil)))))
      (pss_cons (ps_if (pt_not (pt_val (pe_cal c__law_named (hr.mono (by decide)) rfl pass0 (pa_cons (pv 1) (pa_cons pe_int (pa_cons (pe_op (k_catS (K := K) rfl) (pv 8) (pe_lst (pa_cons pe_str (pa_cons pe_str (pa_cons pe_str pa_nil))))) (pa_cons (pe_op (k_catS (K := K) rfl) (pv 6) (pv 10)) (pa_cons (pe_op (k_catS (K := K) rfl) (pv 7) (pv 11)) pa_nil)))))))) (pss_one (ps_ret pe_bl)) pss_nil)
      (pss_cons (ps_set (i := 12) sc_law.nd rfl (Or.inl rfl) (pe_ix (k_ix (K := K) rfl) (pe_lst (pa_cons (pe_op (k_add (K := K) rfl) (pe_tupN (pa_cons (pe_op (k_add (K := K) rfl) (pv 3) pe_int) (pa_cons pe_int pa_nil))) (pv 4)) (pa_cons (pe_op (k_add (K := K) rfl) (pe_tupN (pa_cons (pv 3) pa_nil)) (pv 4)) (pa_cons (pe_lst (pa_cons (pv 3) (pa_cons pe_int pa_nil))) (pa_cons (pe_op (k_add (K := K) rfl) (pe_tupN (pa_cons (pe_op (k_add (K := K) rfl) (pv 3) pe_int) (pa_cons (pe_un un_neg pe_int) pa_nil))) (pv 4)) pa_nil))))) (pe_cal c__law_next (hr.mono (by decide)) rfl pass0 (pa_cons (pv 1) (pa_cons pe_int pa_nil))) (fun _ _ => rfl)))
      (pss_cons (ps_for PassesOwn.never rfl (pi_range2 rfl T.b_range (pa_cons pe_int (pa_cons pe_int pa_nil))) (pg_name (i := 9) sc_law.nd rfl (Or.inl rfl)) (pss_one (ps_if (pt_not (pt_val (pe_cal c__law_named (hr.mono (by decide)) rfl pass0 (pa_cons (pv 1) (pa_cons (pv 9) (pa_cons (pe_op (k_catS (K := K) rfl) (pv 8) (pe_lst (pa_cons pe_str pa_nil))) (pa_cons (pe_op (k_catS (K := K) rfl) (pv 6) (pe_lst (pa_cons (pe_ix (k_ix (K := K) rfl) (pe_ix (k_ix (K := K) rfl) (pv 5) pe_int (fun _ _ => rfl)) pe_int (fun _ _ => rfl)) pa_nil))) (pa_cons (pe_op (k_catS (K := K) rfl) (pv 7) (pe_lst (pa_cons (pv 12) pa_nil))) pa_nil)))))))) (pss_one (ps_ret pe_bl)) pss_nil)))
      (pss_one (ps_ret pe_bl))))))))))))))))), run_law (N := n_law) (by decide) (fun st l => ?_) h⟩)
  have drw : ∀ {Γ : List (Option Rs)} (m : Int), 0 < m → m < 1073741824 → Γ[1]? = some (some (.r (.ref st))) → EvN (sc K st l) (tCall (sp__law_next K) [] E0 (tCons (tVar 1) (tCons (tC (.int m)) tNil))) Γ .v (SomeI fun i => 0 ≤ i ∧ i < m) := fun m m0 m1 h => n_call (st := st) (l := l) rfl h (a_cons d_int a_nil) ⟨m, rfl, m0, m1, rfl, rfl⟩
  have pick : ∀ {P : PyData → Prop} {ds : List PyData} {m : Nat}, AllP P m ds → ∀ i : Int, (0 ≤ i ∧ i < (m : Int)) → ∃ d, atI ds i = some d ∧ P d := fun {P ds m} h i ⟨i0, i1⟩ => by
    obtain ⟨j, rfl⟩ := Int.eq_ofNat_of_zero_le i0
    have hj : j < ds.length := by have := h.1; omega
    exact ⟨ds[j], atI_nat (List.getElem?_eq_getElem hj), h.2 _ (List.getElem_mem hj)⟩
  refine q_asgN (SomeI fun i => 2 ≤ i ∧ i < 6) (n_add (d_int.sm (Q := fun m => m = 2) rfl) (drw 4 (by decide) (by decide) rfl) (fun m n hm hn => by omega)) ?_
  rintro d ⟨v0, rfl, v2, v6⟩
  obtain ⟨v, rfl⟩ := Int.eq_ofNat_of_zero_le (show 0 ≤ v0 by omega)
  have v2 : 2 ≤ v := by omega
  have v5 : v ≤ 5 := by omega
  refine q_asgN (SomeI fun i => 1 ≤ i ∧ i < 21) (n_add (d_int.sm (Q := fun m => m = 1) rfl) (drw 20 (by decide) (by decide) rfl) (fun m n hm hn => by omega)) ?_
  rintro d ⟨b0, rfl, b1, b21⟩
  obtain ⟨b, rfl⟩ := Int.eq_ofNat_of_zero_le (show 0 ≤ b0 by omega)
  have b1 : 1 ≤ b := by omega
  have b20 : b ≤ 20 := by omega
  have hR := rul61 v2 v5 b1 b20
  have rp : ∀ (n : Nat) (i : Int), i = (n : Int) → (.tuple (List.replicate i.toNat [PyData.int 0]).flatten : PyData) = tupD (zr n) := fun n i h => by
    subst h
    rw [rep_flat, Int.toNat_natCast]
    simp [zr]
  refine q_asg (d := tupD (zr (v - 2))) (Ev.to (e_repT (d_tup (a_consV d_int a_nil) (by simp)) (by simp) (d_sub (d_var rfl) d_int) (by omega) (by omega) (by simp)) (rp _ _ (by omega))) ?_
  have lz : (zr (v - 2)).length ≤ 3 := by simp [zr]; omega
  have zb : ∀ {Γ : List (Option Rs)}, Γ[3]? = some (some (.v (.int (b : Int)))) → Ev (sc K st l) (tOp (rRepU K) (tTupN (tCons (tC (.int 0)) tNil)) (tVar 3)) Γ .v (tupD (zr b)) := fun h => Ev.to (e_repT (d_tup (a_consV d_int a_nil) (by simp)) (by simp) (d_var h) (by omega) (by omega) (by simp)) (rp _ _ rfl)
  refine q_asg (d := .tuple ((R61 v b).map rlD)) (Ev.to (d_tup (a_consV (d_tup (a_consV (e_catT (d_tup (a_consV (d_var rfl) (a_consV d_int a_nil)) (by simp)) (d_var rfl) (by simp; omega)) (a_consV (zb rfl) a_nil)) (by simp)) (a_consV (d_tup (a_consV (e_catT (d_tup (a_consV (d_sub (d_var rfl) d_int) (a_consV d_int a_nil)) (by simp)) (d_var rfl) (by simp; omega))
    (a_consV (e_catT (d_tup (a_consV d_int a_nil) (by simp)) (Ev.to (e_repT (d_tup (a_consV d_int a_nil) (by simp)) (by simp) (d_sub (d_var rfl) d_int) (by omega) (by omega) (by simp)) (rp (b - 1) _ (by omega))) (by simp [zr]; omega)) a_nil)) (by simp)) a_nil)) (by simp)) rfl) ?_
  refine q_asgW (ds := [.int (v : Int), .int (b : Int), .tuple ((R61 v b).map rlD)]) (w_lst (a_consV (d_var rfl) (a_consV (d_var rfl) (a_consV (d_var rfl) a_nil))) (by simp)) ?_
  refine s_freezeW (n := 6) (ds := [.int (v : Int), .int (b : Int), .tuple ((R61 v b).map rlD)]) rfl ?_
  show Sd (sc K st l) _ [none, some (.r (.ref st)), some (.v (.int (v : Int))), some (.v (.int (b : Int))), some (.v (tupD (zr (v - 2)))), some (.v (.tuple ((R61 v b).map rlD))), some (.v (.list [.int (v : Int), .int (b : Int), .tuple ((R61 v b).map rlD)])), none, none, none, none, none, none] _
  have bad1 := fun {Γ : List (Option Rs)} (h : Γ[1]? = some (some (.r (.ref st)))) => n_ixLV (c := sc K st l) (Γ := Γ) (P := fun d => isIntD d 1 5 = false) (Q := fun i => 0 ≤ i ∧ i < 3) (e_lstV (ds := [.int 0, .int 6, .bool true]) (a_consV d_int (a_consV d_int (a_consV d_bl a_nil))) (by simp)) (drw 3 (by decide) (by decide) h) (pick ⟨rfl, by decide⟩)
  have bad2 := fun {Γ : List (Option Rs)} (h : Γ[1]? = some (some (.r (.ref st)))) => n_ixLV (c := sc K st l) (Γ := Γ) (P := fun d => isIntD d 0 20 = false) (Q := fun i => 0 ≤ i ∧ i < 3) (e_lstV (ds := [.int (-1), .int 21, .none]) (a_consV (e_neg d_int) (a_consV d_int (a_consV d_non a_nil))) (by simp)) (drw 3 (by decide) (by decide) h) (pick ⟨rfl, by decide⟩)
  refine q_asgWN (w_lstN (an_cons (bad1 rfl) (an_cons (bad2 rfl) an_nil)) (fun ds h => by obtain ⟨_, _, rfl, _, _, _, rfl, _, rfl⟩ := h; simp)) ?_
  rintro ds ⟨nv, _, rfl, h1, nb, _, rfl, h2, rfl⟩
  show Sd (sc K st l) _ [none, some (.r (.ref st)), some (.v (.int (v : Int))), some (.v (.int (b : Int))), some (.v (tupD (zr (v - 2)))), some (.v (.tuple ((R61 v b).map rlD))), some (.v (.list [.int (v : Int), .int (b : Int), .tuple ((R61 v b).map rlD)])), some (.w [nv, nb]), none, none, none, none, none] _
  have r0 : ∀ {Γ : List (Option Rs)}, Γ[5]? = some (some (.v (.tuple ((R61 v b).map rlD)))) → Ev (sc K st l) (tOp (rIx K) (tVar 5) (tC (.int 0))) Γ .v (.tuple [tupD (p61a v b).1, tupD (p61a v b).2]) := fun h => e_ixTv (d_var h) d_int rfl
  refine s_seqE (fun Γ1 => ∃ nr, Γ1 = [none, some (.r (.ref st)), some (.v (.int (v : Int))), some (.v (.int (b : Int))), some (.v (tupD (zr (v - 2)))), some (.v (.tuple ((R61 v b).map rlD))), some (.v (.list [.int (v : Int), .int (b : Int), .tuple ((R61 v b).map rlD)])), some (.w [nv, nb, nr]), none, none, none, none, none] ∧ NoR nr v b) (s_appWN (Pe := fun d => NoR d v b) rfl (n_ixLV (Q := fun i => 0 ≤ i ∧ i < 5) (e_lstV (ds := [.list ((R61 v b).map rlD), .tuple ((R61 v b).map rlD ++ Lm.cutD ((R61 v b).map rlD) none (some 1)), .tuple [.tuple (Lm.cutD [tupD (p61a v b).1, tupD (p61a v b).2] none (some 1))], .tuple [.tuple [tupD (p61a v b).2, tupD (p61a v b).1]], .none])
    (a_consV (Ev.frz (e_listT (d_var rfl) (fl_prR _))) (a_consV (e_catT (d_var rfl) (e_sl (d_var rfl) o_none (o_some d_int)) (by show 2 + 1 ≤ 1000000; decide)) (a_consV (d_tup (a_consV (e_sl (r0 rfl) o_none (o_some d_int)) a_nil) (by simp)) (a_consV (d_tup (a_consV (Ev.to (e_revT (r0 rfl)) rfl) a_nil) (by simp)) (a_consV d_non a_nil))))) (by simp)) (drw 5 (by decide) (by decide) rfl) (pick ⟨rfl, fun d hd => ?_⟩)) (by simp) (fun d hd => ⟨_, rfl, d, rfl, hd⟩)) ?_
  · simp only [List.mem_cons, List.not_mem_nil, or_false] at hd
    exact bad61 v2 v5 b1 b20 hd
  rintro Γ1 ⟨nr, rfl, h3⟩
  refine s_freezeW (n := 7) (ds := [nv, nb, nr]) rfl ?_
  show Sd (sc K st l) _ [none, some (.r (.ref st)), some (.v (.int (v : Int))), some (.v (.int (b : Int))), some (.v (tupD (zr (v - 2)))), some (.v (.tuple ((R61 v b).map rlD))), some (.v (.list [.int (v : Int), .int (b : Int), .tuple ((R61 v b).map rlD)])), some (.v (.list [nv, nb, nr])), none, none, none, none, none] _
  refine q_asgW (ds := (nms3.map .str)) (w_lst (ds := [.str "variants", .str "buckets", .str "rule"]) (a_consV d_str (a_consV d_str (a_consV d_str a_nil))) (by simp)) ?_
  refine s_freezeW (n := 8) (ds := (nms3.map .str)) rfl ?_
  show Sd (sc K st l) _ [none, some (.r (.ref st)), some (.v (.int (v : Int))), some (.v (.int (b : Int))), some (.v (tupD (zr (v - 2)))), some (.v (.tuple ((R61 v b).map rlD))), some (.v (.list [.int (v : Int), .int (b : Int), .tuple ((R61 v b).map rlD)])), some (.v (.list [nv, nb, nr])), some (.v (.list (nms3.map .str))), none, none, none, none] _
  have ask3 : ∀ w : Nat, w < 5 → ∃ dd, AskP w [.int (v : Int), .int (b : Int), .tuple ((R61 v b).map rlD)] dd := fun w hw => by
    match w, hw with
    | 0, _ => exact ⟨_, R61 v b, v, b, hR, .inl ⟨by decide, rfl, .inl ⟨rfl, rfl⟩⟩⟩
    | 1, _ => exact ⟨_, R61 v b, v, b, hR, .inl ⟨by decide, rfl, .inr (.inl ⟨rfl, rfl⟩)⟩⟩
    | 2, _ => exact ⟨_, R61 v b, v, b, hR, .inl ⟨by decide, rfl, .inr (.inr (.inl ⟨rfl, rfl⟩))⟩⟩
    | 3, _ => exact ⟨_, R61 v b, v, b, hR, .inl ⟨by decide, rfl, .inr (.inr (.inr (.inl ⟨rfl, rfl⟩)))⟩⟩
    | 4, _ => exact ⟨_, R61 v b, v, b, hR, .inl ⟨by decide, rfl, .inr (.inr (.inr (.inr ⟨rfl, rfl⟩)))⟩⟩
  refine q_for (i_rngN (n := 5) (a_cons d_int a_nil) (by decide)) (fun n Γ1 => ∃ t9, Γ1 = [none, some (.r (.ref st)), some (.v (.int (v : Int))), some (.v (.int (b : Int))), some (.v (tupD (zr (v - 2)))), some (.v (.tuple ((R61 v b).map rlD))), some (.v (.list [.int (v : Int), .int (b : Int), .tuple ((R61 v b).map rlD)])), some (.v (.list [nv, nb, nr])), some (.v (.list (nms3.map .str))), t9, none, none, none]) ⟨_, rfl⟩ (fun n a Γ1 hn' hI => ?_) (fun Γ1 hI => ?_)
  · obtain ⟨t9, rfl⟩ := hI
    obtain ⟨hn, rfl⟩ := rngN_at hn'
    exact ⟨_, _, g_name, s_if (a := false) (EvT.to (t_not (t_B (EvN.det (n_call (st := st) (l := l) rfl rfl (a_cons (d_var rfl) (a_cons (d_var rfl) (a_cons (d_var rfl) (a_cons (d_var rfl) a_nil)))) ⟨n, nms3, _, _, rfl, ask3 n hn, badR3 hn (by omega) v5 b20 h1 h2 h3, rfl, rfl⟩)))) rfl) (fun z => nomatch z) fun _ => s_next (.inl ⟨_, .inl rfl, _, rfl⟩)⟩
  obtain ⟨t9, rfl⟩ := hI
  refine q_asgWN (w_lstN (an_cons (drw 2 (by decide) (by decide) rfl) (an_cons (drw 2 (by decide) (by decide) rfl) (an_cons (n_call (st := st) (l := l) (P := SomeI fun i => 0 ≤ i ∧ i < (b : Int)) rfl rfl (a_cons (d_var rfl) a_nil) ⟨(b : Int), rfl, by omega, by omega, rfl, rfl⟩) an_nil))) (fun ds h => by obtain ⟨_, _, rfl, _, _, _, rfl, _, _, _, rfl, _, rfl⟩ := h; simp)) ?_
  rintro ds ⟨_, _, rfl, ⟨i1, rfl, i10, i12⟩, _, _, rfl, ⟨j1, rfl, j10, j12⟩, _, _, rfl, ⟨l1, rfl, l10, l12⟩, rfl⟩
  obtain ⟨i1, rfl⟩ := Int.eq_ofNat_of_zero_le i10
  obtain ⟨j1, rfl⟩ := Int.eq_ofNat_of_zero_le j10
  obtain ⟨l1, rfl⟩ := Int.eq_ofNat_of_zero_le l10
  refine s_freezeW (n := 10) (ds := [.int (i1 : Int), .int (j1 : Int), .int (l1 : Int)]) rfl ?_
  show Sd (sc K st l) _ [none, some (.r (.ref st)), some (.v (.int (v : Int))), some (.v (.int (b : Int))), some (.v (tupD (zr (v - 2)))), some (.v (.tuple ((R61 v b).map rlD))), some (.v (.list [.int (v : Int), .int (b : Int), .tuple ((R61 v b).map rlD)])), some (.v (.list [nv, nb, nr])), some (.v (.list (nms3.map .str))), t9, some (.v (.list [.int (i1 : Int), .int (j1 : Int), .int (l1 : Int)])), none, none] _
  have three : ∀ {Γ : List (Option Rs)} {P : PyData → Prop} {tr : TA} {ds : List PyData}, EvA (sc K st l) tr Γ true ds → ds.length = 3 → (∀ d ∈ ds, P d) → Γ[1]? = some (some (.r (.ref st))) → EvN (sc K st l) (tOp (rIx K) (tLst tr) (tCall (sp__law_next K) [] E0 (tCons (tVar 1) (tCons (tC (.int 3)) tNil)))) Γ .v P := fun h hl hp hs => n_ixLV (Q := fun i => 0 ≤ i ∧ i < 3) (e_lstV h (by omega)) (drw 3 (by decide) (by decide) hs) (pick ⟨hl, hp⟩)
  refine q_asgWN (w_lstN (an_cons (three (P := fun d => isIntD d 0 1 = false) (ds := [.int 2, .int (-1), .bool true]) (a_consV d_int (a_consV (e_neg d_int) (a_consV d_bl a_nil))) rfl (by decide) rfl)
    (an_cons (three (P := fun d => isIntD d 0 1 = false) (ds := [.int 2, .int (-1), .none]) (a_consV d_int (a_consV (e_neg d_int) (a_consV d_non a_nil))) rfl (by decide) rfl)
    (an_cons (three (P := fun d => isIntD d 0 ((b : Int) - 1) = false) (ds := [.int (b : Int), .int (-1), .bool true]) (a_consV (d_var rfl) (a_consV (e_neg d_int) (a_consV d_bl a_nil))) rfl (fun d hd => by
      simp only [List.mem_cons, List.not_mem_nil, or_false] at hd
      rcases hd with rfl | rfl | rfl
      · simp [isIntD]; try omega
      · rfl
      · rfl) rfl) an_nil))) (fun ds h => by obtain ⟨_, _, rfl, _, _, _, rfl, _, _, _, rfl, _, rfl⟩ := h; simp)) ?_
  rintro ds ⟨nf, _, rfl, h4, ns, _, rfl, h5, nu, _, rfl, h6, rfl⟩
  refine s_freezeW (n := 11) (ds := [nf, ns, nu]) rfl ?_
  show Sd (sc K st l) _ [none, some (.r (.ref st)), some (.v (.int (v : Int))), some (.v (.int (b : Int))), some (.v (tupD (zr (v - 2)))), some (.v (.tuple ((R61 v b).map rlD))), some (.v (.list [.int (v : Int), .int (b : Int), .tuple ((R61 v b).map rlD)])), some (.v (.list [nv, nb, nr])), some (.v (.list (nms3.map .str))), t9, some (.v (.list [.int (i1 : Int), .int (j1 : Int), .int (l1 : Int)])), some (.v (.list [nf, ns, nu])), none] _
  refine q_no (EvT.to (t_not (t_B (EvN.det (n_call (st := st) (l := l) rfl rfl (a_cons d_int (a_cons (EvW.kb (w_cat (d_var rfl) (e_lstV (ds := [.str "first", .str "second", .str "bucket"]) (a_consV d_str (a_consV d_str (a_consV d_str a_nil))) (by simp)) (by simp [nms3]))) (a_cons (EvW.kb (w_cat (d_var rfl) (d_var rfl) (by simp))) (a_cons (EvW.kb (w_cat (d_var rfl) (d_var rfl) (by simp))) a_nil))))
    ⟨5, nms6, [.int (v : Int), .int (b : Int), .tuple ((R61 v b).map rlD)] ++ [.int (i1 : Int), .int (j1 : Int), .int (l1 : Int)], [nv, nb, nr, nf, ns, nu], rfl, ⟨_, R61 v b, v, b, hR, .inr (.inl ⟨rfl, i1, j1, l1, rfl, by show i1 < 2; omega, by show j1 < 2; omega, by omega, rfl⟩)⟩, badR6 hR (by show i1 < 2; omega) (by show j1 < 2; omega) h1 h2 h3 h4 h5 h6, rfl, rfl⟩)))) rfl) ?_
  refine q_asgN (fun d => NoAl (v : Int) (b : Int) d) (n_ixLV (Q := fun i => 0 ≤ i ∧ i < 4) (e_lstV (ds := [tupD (((b : Int) + 1) :: 0 :: zr (v - 2)), tupD ((b : Int) :: zr (v - 2)), .list [.int (b : Int), .int 0], tupD (((b : Int) + 1) :: -1 :: zr (v - 2))])
    (a_consV (e_catT (d_tup (a_consV (e_add (d_var rfl) d_int) (a_consV d_int a_nil)) (by simp)) (d_var rfl) (by simp; omega)) (a_consV (e_catT (d_tup (a_consV (d_var rfl) a_nil) (by simp)) (d_var rfl) (by simp; omega)) (a_consV (e_lstV (a_consV (d_var rfl) (a_consV d_int a_nil)) (by simp)) (a_consV (e_catT (d_tup (a_consV (e_add (d_var rfl) d_int) (a_consV (e_neg d_int) a_nil)) (by simp)) (d_var rfl) (by simp; omega)) a_nil)))) (by simp)) (drw 4 (by decide) (by decide) rfl) (pick ⟨rfl, fun d hd => ?_⟩)) ?_
  · simp only [List.mem_cons, List.not_mem_nil, or_false] at hd
    exact nal61 v2 v5 b1 b20 hd
  intro na h7
  show Sd (sc K st l) _ [none, some (.r (.ref st)), some (.v (.int (v : Int))), some (.v (.int (b : Int))), some (.v (tupD (zr (v - 2)))), some (.v (.tuple ((R61 v b).map rlD))), some (.v (.list [.int (v : Int), .int (b : Int), .tuple ((R61 v b).map rlD)])), some (.v (.list [nv, nb, nr])), some (.v (.list (nms3.map .str))), t9, some (.v (.list [.int (i1 : Int), .int (j1 : Int), .int (l1 : Int)])), some (.v (.list [nf, ns, nu])), some (.v na)] _
  have hA : Alc (p61b v b).1 (v : Int) (b : Int) := (ok61 v2 v5 b1 b20).2.alc
  have ask4 : ∀ w : Nat, 6 ≤ w → w ≤ 9 → ∃ dd, AskP w ([.int (v : Int), .int (b : Int), .tuple ((R61 v b).map rlD)] ++ [tupD (p61b v b).1]) dd := fun w h6 h9 => by
    match w, h6, h9 with
    | 6, _, _ => exact ⟨_, R61 v b, v, b, hR, .inr (.inr ⟨by decide, by decide, _, rfl, hA, .inl ⟨rfl, rfl⟩⟩)⟩
    | 7, _, _ => exact ⟨_, R61 v b, v, b, hR, .inr (.inr ⟨by decide, by decide, _, rfl, hA, .inr (.inl ⟨rfl, rfl⟩)⟩)⟩
    | 8, _, _ => exact ⟨_, R61 v b, v, b, hR, .inr (.inr ⟨by decide, by decide, _, rfl, hA, .inr (.inr (.inl ⟨rfl, rfl⟩))⟩)⟩
    | 9, _, _ => exact ⟨_, R61 v b, v, b, hR, .inr (.inr ⟨by decide, by decide, _, rfl, hA, .inr (.inr (.inr ⟨rfl, rfl⟩))⟩)⟩
    | w + 10, _, h => omega
  refine q_for (i_rngN2 (lo := 6) (n := 10) (a_cons d_int (a_cons d_int a_nil)) (by decide) (by decide)) (fun n Γ1 => ∃ t9, Γ1 = [none, some (.r (.ref st)), some (.v (.int (v : Int))), some (.v (.int (b : Int))), some (.v (tupD (zr (v - 2)))), some (.v (.tuple ((R61 v b).map rlD))), some (.v (.list [.int (v : Int), .int (b : Int), .tuple ((R61 v b).map rlD)])), some (.v (.list [nv, nb, nr])), some (.v (.list (nms3.map .str))), t9, some (.v (.list [.int (i1 : Int), .int (j1 : Int), .int (l1 : Int)])), some (.v (.list [nf, ns, nu])), some (.v na)]) ⟨_, rfl⟩ (fun n a Γ1 hn' hI => ?_) (fun Γ1 hI => ?_)
  · obtain ⟨t9, rfl⟩ := hI
    have hn : n < 4 := by have := (List.getElem?_eq_some_iff.mp hn').1; simpa using this
    have ea : a = .d (.int ((6 + n : Nat) : Int)) := by
      rw [List.getElem?_map, List.getElem?_range hn] at hn'
      exact (Option.some.inj hn').symm
    subst ea
    exact ⟨_, _, g_name, s_if (a := false) (EvT.to (t_not (t_B (EvN.det (n_call (st := st) (l := l) rfl rfl (a_cons (d_var rfl) (a_cons (EvW.kb (w_cat (d_var rfl) (e_lstV (ds := [.str "allocation"]) (a_consV d_str a_nil) (by simp)) (by simp [nms3]))) (a_cons (EvW.kb (w_cat (d_var rfl) (e_lstV (a_consV (e_ixTv (e_ixTv (d_var rfl) d_int rfl) d_int rfl) a_nil) (by simp)) (by simp))) (a_cons (EvW.kb (w_cat (d_var rfl) (e_lstV (a_consV (d_var rfl) a_nil) (by simp)) (by simp))) a_nil))))
      ⟨6 + n, nms4, [.int (v : Int), .int (b : Int), .tuple ((R61 v b).map rlD)] ++ [tupD (p61b v b).1], [nv, nb, nr, na], rfl, ask4 (6 + n) (by omega) (by omega), badR4 (by omega) (by omega) hR h1 h2 h3 h7, rfl, rfl⟩)))) rfl) (fun z => nomatch z) fun _ => s_next (.inl ⟨_, .inl rfl, _, rfl⟩)⟩
  obtain ⟨t9, rfl⟩ := hI
  exact s_ret (d_bl (a := true)) (.inr ⟨rfl, rfl⟩) rfl

end W

namespace W
open PySem PySem.Spec PyProof.Rows L2 Lm
theorem all_mk {l : PySem.W.OpenLaw} {w : World} {K : PySem.W.Frag} {h : Heap} {mg : Str → Option Value} {fa : Addr} (X : K.In h) (G : h.Ns mainGlobals mg) (hfa : mg "law" = some (.ref fa))
    {od_is_integer an_is_integer : Option Addr} {sl_is_integer : Array (Option Value)} {oc_is_integer kV_is_integer dc_is_integer pm_is_integer cd_is_integer ct_is_integer : Value} {f_is_integer : Addr}
    (a_is_integer : PySem.W.nsIn K mainGlobals "is_integer" = some (some (.ref f_is_integer))) (l_is_integer : K.lookup f_is_integer = some ⟨oc_is_integer, od_is_integer, .func (PySem.W.fnOf "is_integer" "is_integer" (defArgs s_is_integer) (defBody s_is_integer) (defScope s_is_integer) .none kV_is_integer dc_is_integer pm_is_integer an_is_integer cd_is_integer ct_is_integer), sl_is_integer⟩) (o_is_integer : PySem.W.codeIn K cd_is_integer "is_integer" = true) (k_is_integer : PySem.W.keepIn K (.ref f_is_integer) = true)
    {od_are_integers an_are_integers : Option Addr} {sl_are_integers : Array (Option Value)} {oc_are_integers kV_are_integers dc_are_integers pm_are_integers cd_are_integers ct_are_integers : Value} {f_are_integers : Addr}
    (a_are_integers : PySem.W.nsIn K mainGlobals "are_integers" = some (some (.ref f_are_integers))) (l_are_integers : K.lookup f_are_integers = some ⟨oc_are_integers, od_are_integers, .func (PySem.W.fnOf "are_integers" "are_integers" (defArgs s_are_integers) (defBody s_are_integers) (defScope s_are_integers) .none kV_are_integers dc_are_integers pm_are_integers an_are_integers cd_are_integers ct_are_integers), sl_are_integers⟩) (o_are_integers : PySem.W.codeIn K cd_are_integers "are_integers" = true) (k_are_integers : PySem.W.keepIn K (.ref f_are_integers) = true)
    {od_require an_require : Option Addr} {sl_require : Array (Option Value)} {oc_require kV_require dc_require pm_require cd_require ct_require : Value} {f_require : Addr}
    (a_require : PySem.W.nsIn K mainGlobals "require" = some (some (.ref f_require))) (l_require : K.lookup f_require = some ⟨oc_require, od_require, .func (PySem.W.fnOf "require" "require" (defArgs s_require) (defBody s_require) (defScope s_require) .none kV_require dc_require pm_require an_require cd_require ct_require), sl_require⟩) (o_require : PySem.W.codeIn K cd_require "require" = true) (k_require : PySem.W.keepIn K (.ref f_require) = true)
    {od_check_variants an_check_variants : Option Addr} {sl_check_variants : Array (Option Value)} {oc_check_variants kV_check_variants dc_check_variants pm_check_variants cd_check_variants ct_check_variants : Value} {f_check_variants : Addr}
    (a_check_variants : PySem.W.nsIn K mainGlobals "check_variants" = some (some (.ref f_check_variants))) (l_check_variants : K.lookup f_check_variants = some ⟨oc_check_variants, od_check_variants, .func (PySem.W.fnOf "check_variants" "check_variants" (defArgs s_check_variants) (defBody s_check_variants) (defScope s_check_variants) .none kV_check_variants dc_check_variants pm_check_variants an_check_variants cd_check_variants ct_check_variants), sl_check_variants⟩) (o_check_variants : PySem.W.codeIn K cd_check_variants "check_variants" = true) (k_check_variants : PySem.W.keepIn K (.ref f_check_variants) = true)
    {od_check_sizes an_check_sizes : Option Addr} {sl_check_sizes : Array (Option Value)} {oc_check_sizes kV_check_sizes dc_check_sizes pm_check_sizes cd_check_sizes ct_check_sizes : Value} {f_check_sizes : Addr}
    (a_check_sizes : PySem.W.nsIn K mainGlobals "check_sizes" = some (some (.ref f_check_sizes))) (l_check_sizes : K.lookup f_check_sizes = some ⟨oc_check_sizes, od_check_sizes, .func (PySem.W.fnOf "check_sizes" "check_sizes" (defArgs s_check_sizes) (defBody s_check_sizes) (defScope s_check_sizes) .none kV_check_sizes dc_check_sizes pm_check_sizes an_check_sizes cd_check_sizes ct_check_sizes), sl_check_sizes⟩) (o_check_sizes : PySem.W.codeIn K cd_check_sizes "check_sizes" = true) (k_check_sizes : PySem.W.keepIn K (.ref f_check_sizes) = true)
    {od_is_allocation an_is_allocation : Option Addr} {sl_is_allocation : Array (Option Value)} {oc_is_allocation kV_is_allocation dc_is_allocation pm_is_allocation cd_is_allocation ct_is_allocation : Value} {f_is_allocation : Addr}
    (a_is_allocation : PySem.W.nsIn K mainGlobals "is_allocation" = some (some (.ref f_is_allocation))) (l_is_allocation : K.lookup f_is_allocation = some ⟨oc_is_allocation, od_is_allocation, .func (PySem.W.fnOf "is_allocation" "is_allocation" (defArgs s_is_allocation) (defBody s_is_allocation) (defScope s_is_allocation) .none kV_is_allocation dc_is_allocation pm_is_allocation an_is_allocation cd_is_allocation ct_is_allocation), sl_is_allocation⟩) (o_is_allocation : PySem.W.codeIn K cd_is_allocation "is_allocation" = true) (k_is_allocation : PySem.W.keepIn K (.ref f_is_allocation) = true)
    {od_is_bounded_allocation an_is_bounded_allocation : Option Addr} {sl_is_bounded_allocation : Array (Option Value)} {oc_is_bounded_allocation kV_is_bounded_allocation dc_is_bounded_allocation pm_is_bounded_allocation cd_is_bounded_allocation ct_is_bounded_allocation : Value} {f_is_bounded_allocation : Addr}
    (a_is_bounded_allocation : PySem.W.nsIn K mainGlobals "is_bounded_allocation" = some (some (.ref f_is_bounded_allocation))) (l_is_bounded_allocation : K.lookup f_is_bounded_allocation = some ⟨oc_is_bounded_allocation, od_is_bounded_allocation, .func (PySem.W.fnOf "is_bounded_allocation" "is_bounded_allocation" (defArgs s_is_bounded_allocation) (defBody s_is_bounded_allocation) (defScope s_is_bounded_allocation) .none kV_is_bounded_allocation dc_is_bounded_allocation pm_is_bounded_allocation an_is_bounded_allocation cd_is_bounded_allocation ct_is_bounded_allocation), sl_is_bounded_allocation⟩) (o_is_bounded_allocation : PySem.W.codeIn K cd_is_bounded_allocation "is_bounded_allocation" = true) (k_is_bounded_allocation : PySem.W.keepIn K (.ref f_is_bounded_allocation) = true)
    {od_check_allocation an_check_allocation : Option Addr} {sl_check_allocation : Array (Option Value)} {oc_check_allocation kV_check_allocation dc_check_allocation pm_check_allocation cd_check_allocation ct_check_allocation : Value} {f_check_allocation : Addr}
    (a_check_allocation : PySem.W.nsIn K mainGlobals "check_allocation" = some (some (.ref f_check_allocation))) (l_check_allocation : K.lookup f_check_allocation = some ⟨oc_check_allocation, od_check_allocation, .func (PySem.W.fnOf "check_allocation" "check_allocation" (defArgs s_check_allocation) (defBody s_check_allocation) (defScope s_check_allocation) .none kV_check_allocation dc_check_allocation pm_check_allocation an_check_allocation cd_check_allocation ct_check_allocation), sl_check_allocation⟩) (o_check_allocation : PySem.W.codeIn K cd_check_allocation "check_allocation" = true) (k_check_allocation : PySem.W.keepIn K (.ref f_check_allocation) = true)
    {od_check_alike an_check_alike : Option Addr} {sl_check_alike : Array (Option Value)} {oc_check_alike kV_check_alike dc_check_alike pm_check_alike cd_check_alike ct_check_alike : Value} {f_check_alike : Addr}
    (a_check_alike : PySem.W.nsIn K mainGlobals "check_alike" = some (some (.ref f_check_alike))) (l_check_alike : K.lookup f_check_alike = some ⟨oc_check_alike, od_check_alike, .func (PySem.W.fnOf "check_alike" "check_alike" (defArgs s_check_alike) (defBody s_check_alike) (defScope s_check_alike) .none kV_check_alike dc_check_alike pm_check_alike an_check_alike cd_check_alike ct_check_alike), sl_check_alike⟩) (o_check_alike : PySem.W.codeIn K cd_check_alike "check_alike" = true) (k_check_alike : PySem.W.keepIn K (.ref f_check_alike) = true)
    {od_transfer an_transfer : Option Addr} {sl_transfer : Array (Option Value)} {oc_transfer kV_transfer dc_transfer pm_transfer cd_transfer ct_transfer : Value} {f_transfer : Addr}
    (a_transfer : PySem.W.nsIn K mainGlobals "transfer" = some (some (.ref f_transfer))) (l_transfer : K.lookup f_transfer = some ⟨oc_transfer, od_transfer, .func (PySem.W.fnOf "transfer" "transfer" (defArgs s_transfer) (defBody s_transfer) (defScope s_transfer) .none kV_transfer dc_transfer pm_transfer an_transfer cd_transfer ct_transfer), sl_transfer⟩) (o_transfer : PySem.W.codeIn K cd_transfer "transfer" = true) (k_transfer : PySem.W.keepIn K (.ref f_transfer) = true)
    {od_is_assignment an_is_assignment : Option Addr} {sl_is_assignment : Array (Option Value)} {oc_is_assignment kV_is_assignment dc_is_assignment pm_is_assignment cd_is_assignment ct_is_assignment : Value} {f_is_assignment : Addr}
    (a_is_assignment : PySem.W.nsIn K mainGlobals "is_assignment" = some (some (.ref f_is_assignment))) (l_is_assignment : K.lookup f_is_assignment = some ⟨oc_is_assignment, od_is_assignment, .func (PySem.W.fnOf "is_assignment" "is_assignment" (defArgs s_is_assignment) (defBody s_is_assignment) (defScope s_is_assignment) .none kV_is_assignment dc_is_assignment pm_is_assignment an_is_assignment cd_is_assignment ct_is_assignment), sl_is_assignment⟩) (o_is_assignment : PySem.W.codeIn K cd_is_assignment "is_assignment" = true) (k_is_assignment : PySem.W.keepIn K (.ref f_is_assignment) = true)
    {od_is_bounded_assignment an_is_bounded_assignment : Option Addr} {sl_is_bounded_assignment : Array (Option Value)} {oc_is_bounded_assignment kV_is_bounded_assignment dc_is_bounded_assignment pm_is_bounded_assignment cd_is_bounded_assignment ct_is_bounded_assignment : Value} {f_is_bounded_assignment : Addr}
    (a_is_bounded_assignment : PySem.W.nsIn K mainGlobals "is_bounded_assignment" = some (some (.ref f_is_bounded_assignment))) (l_is_bounded_assignment : K.lookup f_is_bounded_assignment = some ⟨oc_is_bounded_assignment, od_is_bounded_assignment, .func (PySem.W.fnOf "is_bounded_assignment" "is_bounded_assignment" (defArgs s_is_bounded_assignment) (defBody s_is_bounded_assignment) (defScope s_is_bounded_assignment) .none kV_is_bounded_assignment dc_is_bounded_assignment pm_is_bounded_assignment an_is_bounded_assignment cd_is_bounded_assignment ct_is_bounded_assignment), sl_is_bounded_assignment⟩) (o_is_bounded_assignment : PySem.W.codeIn K cd_is_bounded_assignment "is_bounded_assignment" = true) (k_is_bounded_assignment : PySem.W.keepIn K (.ref f_is_bounded_assignment) = true)
    {od_check_assignment an_check_assignment : Option Addr} {sl_check_assignment : Array (Option Value)} {oc_check_assignment kV_check_assignment dc_check_assignment pm_check_assignment cd_check_assignment ct_check_assignment : Value} {f_check_assignment : Addr}
    (a_check_assignment : PySem.W.nsIn K mainGlobals "check_assignment" = some (some (.ref f_check_assignment))) (l_check_assignment : K.lookup f_check_assignment = some ⟨oc_check_assignment, od_check_assignment, .func (PySem.W.fnOf "check_assignment" "check_assignment" (defArgs s_check_assignment) (defBody s_check_assignment) (defScope s_check_assignment) .none kV_check_assignment dc_check_assignment pm_check_assignment an_check_assignment cd_check_assignment ct_check_assignment), sl_check_assignment⟩) (o_check_assignment : PySem.W.codeIn K cd_check_assignment "check_assignment" = true) (k_check_assignment : PySem.W.keepIn K (.ref f_check_assignment) = true)
    {od_check_pair an_check_pair : Option Addr} {sl_check_pair : Array (Option Value)} {oc_check_pair kV_check_pair dc_check_pair pm_check_pair cd_check_pair ct_check_pair : Value} {f_check_pair : Addr}
    (a_check_pair : PySem.W.nsIn K mainGlobals "check_pair" = some (some (.ref f_check_pair))) (l_check_pair : K.lookup f_check_pair = some ⟨oc_check_pair, od_check_pair, .func (PySem.W.fnOf "check_pair" "check_pair" (defArgs s_check_pair) (defBody s_check_pair) (defScope s_check_pair) .none kV_check_pair dc_check_pair pm_check_pair an_check_pair cd_check_pair ct_check_pair), sl_check_pair⟩) (o_check_pair : PySem.W.codeIn K cd_check_pair "check_pair" = true) (k_check_pair : PySem.W.keepIn K (.ref f_check_pair) = true)
    {od_check_enough an_check_enough : Option Addr} {sl_check_enough : Array (Option Value)} {oc_check_enough kV_check_enough dc_check_enough pm_check_enough cd_check_enough ct_check_enough : Value} {f_check_enough : Addr}
    (a_check_enough : PySem.W.nsIn K mainGlobals "check_enough" = some (some (.ref f_check_enough))) (l_check_enough : K.lookup f_check_enough = some ⟨oc_check_enough, od_check_enough, .func (PySem.W.fnOf "check_enough" "check_enough" (defArgs s_check_enough) (defBody s_check_enough) (defScope s_check_enough) .none kV_check_enough dc_check_enough pm_check_enough an_check_enough cd_check_enough ct_check_enough), sl_check_enough⟩) (o_check_enough : PySem.W.codeIn K cd_check_enough "check_enough" = true) (k_check_enough : PySem.W.keepIn K (.ref f_check_enough) = true)
    {od_allocation_of an_allocation_of : Option Addr} {sl_allocation_of : Array (Option Value)} {oc_allocation_of kV_allocation_of dc_allocation_of pm_allocation_of cd_allocation_of ct_allocation_of : Value} {f_allocation_of : Addr}
    (a_allocation_of : PySem.W.nsIn K mainGlobals "allocation_of" = some (some (.ref f_allocation_of))) (l_allocation_of : K.lookup f_allocation_of = some ⟨oc_allocation_of, od_allocation_of, .func (PySem.W.fnOf "allocation_of" "allocation_of" (defArgs s_allocation_of) (defBody s_allocation_of) (defScope s_allocation_of) .none kV_allocation_of dc_allocation_of pm_allocation_of an_allocation_of cd_allocation_of ct_allocation_of), sl_allocation_of⟩) (o_allocation_of : PySem.W.codeIn K cd_allocation_of "allocation_of" = true) (k_allocation_of : PySem.W.keepIn K (.ref f_allocation_of) = true)
    {od_is_assignment_of an_is_assignment_of : Option Addr} {sl_is_assignment_of : Array (Option Value)} {oc_is_assignment_of kV_is_assignment_of dc_is_assignment_of pm_is_assignment_of cd_is_assignment_of ct_is_assignment_of : Value} {f_is_assignment_of : Addr}
    (a_is_assignment_of : PySem.W.nsIn K mainGlobals "is_assignment_of" = some (some (.ref f_is_assignment_of))) (l_is_assignment_of : K.lookup f_is_assignment_of = some ⟨oc_is_assignment_of, od_is_assignment_of, .func (PySem.W.fnOf "is_assignment_of" "is_assignment_of" (defArgs s_is_assignment_of) (defBody s_is_assignment_of) (defScope s_is_assignment_of) .none kV_is_assignment_of dc_is_assignment_of pm_is_assignment_of an_is_assignment_of cd_is_assignment_of ct_is_assignment_of), sl_is_assignment_of⟩) (o_is_assignment_of : PySem.W.codeIn K cd_is_assignment_of "is_assignment_of" = true) (k_is_assignment_of : PySem.W.keepIn K (.ref f_is_assignment_of) = true)
    {od_churn an_churn : Option Addr} {sl_churn : Array (Option Value)} {oc_churn kV_churn dc_churn pm_churn cd_churn ct_churn : Value} {f_churn : Addr}
    (a_churn : PySem.W.nsIn K mainGlobals "churn" = some (some (.ref f_churn))) (l_churn : K.lookup f_churn = some ⟨oc_churn, od_churn, .func (PySem.W.fnOf "churn" "churn" (defArgs s_churn) (defBody s_churn) (defScope s_churn) .none kV_churn dc_churn pm_churn an_churn cd_churn ct_churn), sl_churn⟩) (o_churn : PySem.W.codeIn K cd_churn "churn" = true) (k_churn : PySem.W.keepIn K (.ref f_churn) = true)
    {od_moves an_moves : Option Addr} {sl_moves : Array (Option Value)} {oc_moves kV_moves dc_moves pm_moves cd_moves ct_moves : Value} {f_moves : Addr}
    (a_moves : PySem.W.nsIn K mainGlobals "moves" = some (some (.ref f_moves))) (l_moves : K.lookup f_moves = some ⟨oc_moves, od_moves, .func (PySem.W.fnOf "moves" "moves" (defArgs s_moves) (defBody s_moves) (defScope s_moves) .none kV_moves dc_moves pm_moves an_moves cd_moves ct_moves), sl_moves⟩) (o_moves : PySem.W.codeIn K cd_moves "moves" = true) (k_moves : PySem.W.keepIn K (.ref f_moves) = true)
    {od_buckets_of an_buckets_of : Option Addr} {sl_buckets_of : Array (Option Value)} {oc_buckets_of kV_buckets_of dc_buckets_of pm_buckets_of cd_buckets_of ct_buckets_of : Value} {f_buckets_of : Addr}
    (a_buckets_of : PySem.W.nsIn K mainGlobals "buckets_of" = some (some (.ref f_buckets_of))) (l_buckets_of : K.lookup f_buckets_of = some ⟨oc_buckets_of, od_buckets_of, .func (PySem.W.fnOf "buckets_of" "buckets_of" (defArgs s_buckets_of) (defBody s_buckets_of) (defScope s_buckets_of) .none kV_buckets_of dc_buckets_of pm_buckets_of an_buckets_of cd_buckets_of ct_buckets_of), sl_buckets_of⟩) (o_buckets_of : PySem.W.codeIn K cd_buckets_of "buckets_of" = true) (k_buckets_of : PySem.W.keepIn K (.ref f_buckets_of) = true)
    {od_check_bucket an_check_bucket : Option Addr} {sl_check_bucket : Array (Option Value)} {oc_check_bucket kV_check_bucket dc_check_bucket pm_check_bucket cd_check_bucket ct_check_bucket : Value} {f_check_bucket : Addr}
    (a_check_bucket : PySem.W.nsIn K mainGlobals "check_bucket" = some (some (.ref f_check_bucket))) (l_check_bucket : K.lookup f_check_bucket = some ⟨oc_check_bucket, od_check_bucket, .func (PySem.W.fnOf "check_bucket" "check_bucket" (defArgs s_check_bucket) (defBody s_check_bucket) (defScope s_check_bucket) .none kV_check_bucket dc_check_bucket pm_check_bucket an_check_bucket cd_check_bucket ct_check_bucket), sl_check_bucket⟩) (o_check_bucket : PySem.W.codeIn K cd_check_bucket "check_bucket" = true) (k_check_bucket : PySem.W.keepIn K (.ref f_check_bucket) = true)
    {od_are_lists an_are_lists : Option Addr} {sl_are_lists : Array (Option Value)} {oc_are_lists kV_are_lists dc_are_lists pm_are_lists cd_are_lists ct_are_lists : Value} {f_are_lists : Addr}
    (a_are_lists : PySem.W.nsIn K mainGlobals "are_lists" = some (some (.ref f_are_lists))) (l_are_lists : K.lookup f_are_lists = some ⟨oc_are_lists, od_are_lists, .func (PySem.W.fnOf "are_lists" "are_lists" (defArgs s_are_lists) (defBody s_are_lists) (defScope s_are_lists) .none kV_are_lists dc_are_lists pm_are_lists an_are_lists cd_are_lists ct_are_lists), sl_are_lists⟩) (o_are_lists : PySem.W.codeIn K cd_are_lists "are_lists" = true) (k_are_lists : PySem.W.keepIn K (.ref f_are_lists) = true)
    {od_short_list an_short_list : Option Addr} {sl_short_list : Array (Option Value)} {oc_short_list kV_short_list dc_short_list pm_short_list cd_short_list ct_short_list : Value} {f_short_list : Addr}
    (a_short_list : PySem.W.nsIn K mainGlobals "short_list" = some (some (.ref f_short_list))) (l_short_list : K.lookup f_short_list = some ⟨oc_short_list, od_short_list, .func (PySem.W.fnOf "short_list" "short_list" (defArgs s_short_list) (defBody s_short_list) (defScope s_short_list) .none kV_short_list dc_short_list pm_short_list an_short_list cd_short_list ct_short_list), sl_short_list⟩) (o_short_list : PySem.W.codeIn K cd_short_list "short_list" = true) (k_short_list : PySem.W.keepIn K (.ref f_short_list) = true)
    {od_fits an_fits : Option Addr} {sl_fits : Array (Option Value)} {oc_fits kV_fits dc_fits pm_fits cd_fits ct_fits : Value} {f_fits : Addr}
    (a_fits : PySem.W.nsIn K mainGlobals "fits" = some (some (.ref f_fits))) (l_fits : K.lookup f_fits = some ⟨oc_fits, od_fits, .func (PySem.W.fnOf "fits" "fits" (defArgs s_fits) (defBody s_fits) (defScope s_fits) .none kV_fits dc_fits pm_fits an_fits cd_fits ct_fits), sl_fits⟩) (o_fits : PySem.W.codeIn K cd_fits "fits" = true) (k_fits : PySem.W.keepIn K (.ref f_fits) = true)
    {od_check_rule an_check_rule : Option Addr} {sl_check_rule : Array (Option Value)} {oc_check_rule kV_check_rule dc_check_rule pm_check_rule cd_check_rule ct_check_rule : Value} {f_check_rule : Addr}
    (a_check_rule : PySem.W.nsIn K mainGlobals "check_rule" = some (some (.ref f_check_rule))) (l_check_rule : K.lookup f_check_rule = some ⟨oc_check_rule, od_check_rule, .func (PySem.W.fnOf "check_rule" "check_rule" (defArgs s_check_rule) (defBody s_check_rule) (defScope s_check_rule) .none kV_check_rule dc_check_rule pm_check_rule an_check_rule cd_check_rule ct_check_rule), sl_check_rule⟩) (o_check_rule : PySem.W.codeIn K cd_check_rule "check_rule" = true) (k_check_rule : PySem.W.keepIn K (.ref f_check_rule) = true)
    {od_is_pair an_is_pair : Option Addr} {sl_is_pair : Array (Option Value)} {oc_is_pair kV_is_pair dc_is_pair pm_is_pair cd_is_pair ct_is_pair : Value} {f_is_pair : Addr}
    (a_is_pair : PySem.W.nsIn K mainGlobals "is_pair" = some (some (.ref f_is_pair))) (l_is_pair : K.lookup f_is_pair = some ⟨oc_is_pair, od_is_pair, .func (PySem.W.fnOf "is_pair" "is_pair" (defArgs s_is_pair) (defBody s_is_pair) (defScope s_is_pair) .none kV_is_pair dc_is_pair pm_is_pair an_is_pair cd_is_pair ct_is_pair), sl_is_pair⟩) (o_is_pair : PySem.W.codeIn K cd_is_pair "is_pair" = true) (k_is_pair : PySem.W.keepIn K (.ref f_is_pair) = true)
    {od_is_rule an_is_rule : Option Addr} {sl_is_rule : Array (Option Value)} {oc_is_rule kV_is_rule dc_is_rule pm_is_rule cd_is_rule ct_is_rule : Value} {f_is_rule : Addr}
    (a_is_rule : PySem.W.nsIn K mainGlobals "is_rule" = some (some (.ref f_is_rule))) (l_is_rule : K.lookup f_is_rule = some ⟨oc_is_rule, od_is_rule, .func (PySem.W.fnOf "is_rule" "is_rule" (defArgs s_is_rule) (defBody s_is_rule) (defScope s_is_rule) .none kV_is_rule dc_is_rule pm_is_rule an_is_rule cd_is_rule ct_is_rule), sl_is_rule⟩) (o_is_rule : PySem.W.codeIn K cd_is_rule "is_rule" = true) (k_is_rule : PySem.W.keepIn K (.ref f_is_rule) = true)
    {od_given_back an_given_back : Option Addr} {sl_given_back : Array (Option Value)} {oc_given_back kV_given_back dc_given_back pm_given_back cd_given_back ct_given_back : Value} {f_given_back : Addr}
    (a_given_back : PySem.W.nsIn K mainGlobals "given_back" = some (some (.ref f_given_back))) (l_given_back : K.lookup f_given_back = some ⟨oc_given_back, od_given_back, .func (PySem.W.fnOf "given_back" "given_back" (defArgs s_given_back) (defBody s_given_back) (defScope s_given_back) .none kV_given_back dc_given_back pm_given_back an_given_back cd_given_back ct_given_back), sl_given_back⟩) (o_given_back : PySem.W.codeIn K cd_given_back "given_back" = true) (k_given_back : PySem.W.keepIn K (.ref f_given_back) = true)
    {od_missing an_missing : Option Addr} {sl_missing : Array (Option Value)} {oc_missing kV_missing dc_missing pm_missing cd_missing ct_missing : Value} {f_missing : Addr}
    (a_missing : PySem.W.nsIn K mainGlobals "missing" = some (some (.ref f_missing))) (l_missing : K.lookup f_missing = some ⟨oc_missing, od_missing, .func (PySem.W.fnOf "missing" "missing" (defArgs s_missing) (defBody s_missing) (defScope s_missing) .none kV_missing dc_missing pm_missing an_missing cd_missing ct_missing), sl_missing⟩) (o_missing : PySem.W.codeIn K cd_missing "missing" = true) (k_missing : PySem.W.keepIn K (.ref f_missing) = true)
    {od_is_left an_is_left : Option Addr} {sl_is_left : Array (Option Value)} {oc_is_left kV_is_left dc_is_left pm_is_left cd_is_left ct_is_left : Value} {f_is_left : Addr}
    (a_is_left : PySem.W.nsIn K mainGlobals "is_left" = some (some (.ref f_is_left))) (l_is_left : K.lookup f_is_left = some ⟨oc_is_left, od_is_left, .func (PySem.W.fnOf "is_left" "is_left" (defArgs s_is_left) (defBody s_is_left) (defScope s_is_left) .none kV_is_left dc_is_left pm_is_left an_is_left cd_is_left ct_is_left), sl_is_left⟩) (o_is_left : PySem.W.codeIn K cd_is_left "is_left" = true) (k_is_left : PySem.W.keepIn K (.ref f_is_left) = true)
    {od_first_left an_first_left : Option Addr} {sl_first_left : Array (Option Value)} {oc_first_left kV_first_left dc_first_left pm_first_left cd_first_left ct_first_left : Value} {f_first_left : Addr}
    (a_first_left : PySem.W.nsIn K mainGlobals "first_left" = some (some (.ref f_first_left))) (l_first_left : K.lookup f_first_left = some ⟨oc_first_left, od_first_left, .func (PySem.W.fnOf "first_left" "first_left" (defArgs s_first_left) (defBody s_first_left) (defScope s_first_left) .none kV_first_left dc_first_left pm_first_left an_first_left cd_first_left ct_first_left), sl_first_left⟩) (o_first_left : PySem.W.codeIn K cd_first_left "first_left" = true) (k_first_left : PySem.W.keepIn K (.ref f_first_left) = true)
    {od_needless_leave an_needless_leave : Option Addr} {sl_needless_leave : Array (Option Value)} {oc_needless_leave kV_needless_leave dc_needless_leave pm_needless_leave cd_needless_leave ct_needless_leave : Value} {f_needless_leave : Addr}
    (a_needless_leave : PySem.W.nsIn K mainGlobals "needless_leave" = some (some (.ref f_needless_leave))) (l_needless_leave : K.lookup f_needless_leave = some ⟨oc_needless_leave, od_needless_leave, .func (PySem.W.fnOf "needless_leave" "needless_leave" (defArgs s_needless_leave) (defBody s_needless_leave) (defScope s_needless_leave) .none kV_needless_leave dc_needless_leave pm_needless_leave an_needless_leave cd_needless_leave ct_needless_leave), sl_needless_leave⟩) (o_needless_leave : PySem.W.codeIn K cd_needless_leave "needless_leave" = true) (k_needless_leave : PySem.W.keepIn K (.ref f_needless_leave) = true)
    {od_leaves an_leaves : Option Addr} {sl_leaves : Array (Option Value)} {oc_leaves kV_leaves dc_leaves pm_leaves cd_leaves ct_leaves : Value} {f_leaves : Addr}
    (a_leaves : PySem.W.nsIn K mainGlobals "leaves" = some (some (.ref f_leaves))) (l_leaves : K.lookup f_leaves = some ⟨oc_leaves, od_leaves, .func (PySem.W.fnOf "leaves" "leaves" (defArgs s_leaves) (defBody s_leaves) (defScope s_leaves) .none kV_leaves dc_leaves pm_leaves an_leaves cd_leaves ct_leaves), sl_leaves⟩) (o_leaves : PySem.W.codeIn K cd_leaves "leaves" = true) (k_leaves : PySem.W.keepIn K (.ref f_leaves) = true)
    {od_lists_of_rule an_lists_of_rule : Option Addr} {sl_lists_of_rule : Array (Option Value)} {oc_lists_of_rule kV_lists_of_rule dc_lists_of_rule pm_lists_of_rule cd_lists_of_rule ct_lists_of_rule : Value} {f_lists_of_rule : Addr}
    (a_lists_of_rule : PySem.W.nsIn K mainGlobals "lists_of_rule" = some (some (.ref f_lists_of_rule))) (l_lists_of_rule : K.lookup f_lists_of_rule = some ⟨oc_lists_of_rule, od_lists_of_rule, .func (PySem.W.fnOf "lists_of_rule" "lists_of_rule" (defArgs s_lists_of_rule) (defBody s_lists_of_rule) (defScope s_lists_of_rule) .none kV_lists_of_rule dc_lists_of_rule pm_lists_of_rule an_lists_of_rule cd_lists_of_rule ct_lists_of_rule), sl_lists_of_rule⟩) (o_lists_of_rule : PySem.W.codeIn K cd_lists_of_rule "lists_of_rule" = true) (k_lists_of_rule : PySem.W.keepIn K (.ref f_lists_of_rule) = true)
    {od_serves_rule an_serves_rule : Option Addr} {sl_serves_rule : Array (Option Value)} {oc_serves_rule kV_serves_rule dc_serves_rule pm_serves_rule cd_serves_rule ct_serves_rule : Value} {f_serves_rule : Addr}
    (a_serves_rule : PySem.W.nsIn K mainGlobals "serves_rule" = some (some (.ref f_serves_rule))) (l_serves_rule : K.lookup f_serves_rule = some ⟨oc_serves_rule, od_serves_rule, .func (PySem.W.fnOf "serves_rule" "serves_rule" (defArgs s_serves_rule) (defBody s_serves_rule) (defScope s_serves_rule) .none kV_serves_rule dc_serves_rule pm_serves_rule an_serves_rule cd_serves_rule ct_serves_rule), sl_serves_rule⟩) (o_serves_rule : PySem.W.codeIn K cd_serves_rule "serves_rule" = true) (k_serves_rule : PySem.W.keepIn K (.ref f_serves_rule) = true)
    {od_most_waste an_most_waste : Option Addr} {sl_most_waste : Array (Option Value)} {oc_most_waste kV_most_waste dc_most_waste pm_most_waste cd_most_waste ct_most_waste : Value} {f_most_waste : Addr}
    (a_most_waste : PySem.W.nsIn K mainGlobals "most_waste" = some (some (.ref f_most_waste))) (l_most_waste : K.lookup f_most_waste = some ⟨oc_most_waste, od_most_waste, .func (PySem.W.fnOf "most_waste" "most_waste" (defArgs s_most_waste) (defBody s_most_waste) (defScope s_most_waste) .none kV_most_waste dc_most_waste pm_most_waste an_most_waste cd_most_waste ct_most_waste), sl_most_waste⟩) (o_most_waste : PySem.W.codeIn K cd_most_waste "most_waste" = true) (k_most_waste : PySem.W.keepIn K (.ref f_most_waste) = true)
    {od_variant_sets an_variant_sets : Option Addr} {sl_variant_sets : Array (Option Value)} {oc_variant_sets kV_variant_sets dc_variant_sets pm_variant_sets cd_variant_sets ct_variant_sets : Value} {f_variant_sets : Addr}
    (a_variant_sets : PySem.W.nsIn K mainGlobals "variant_sets" = some (some (.ref f_variant_sets))) (l_variant_sets : K.lookup f_variant_sets = some ⟨oc_variant_sets, od_variant_sets, .func (PySem.W.fnOf "variant_sets" "variant_sets" (defArgs s_variant_sets) (defBody s_variant_sets) (defScope s_variant_sets) .none kV_variant_sets dc_variant_sets pm_variant_sets an_variant_sets cd_variant_sets ct_variant_sets), sl_variant_sets⟩) (o_variant_sets : PySem.W.codeIn K cd_variant_sets "variant_sets" = true) (k_variant_sets : PySem.W.keepIn K (.ref f_variant_sets) = true)
    {od_is_inside an_is_inside : Option Addr} {sl_is_inside : Array (Option Value)} {oc_is_inside kV_is_inside dc_is_inside pm_is_inside cd_is_inside ct_is_inside : Value} {f_is_inside : Addr}
    (a_is_inside : PySem.W.nsIn K mainGlobals "is_inside" = some (some (.ref f_is_inside))) (l_is_inside : K.lookup f_is_inside = some ⟨oc_is_inside, od_is_inside, .func (PySem.W.fnOf "is_inside" "is_inside" (defArgs s_is_inside) (defBody s_is_inside) (defScope s_is_inside) .none kV_is_inside dc_is_inside pm_is_inside an_is_inside cd_is_inside ct_is_inside), sl_is_inside⟩) (o_is_inside : PySem.W.codeIn K cd_is_inside "is_inside" = true) (k_is_inside : PySem.W.keepIn K (.ref f_is_inside) = true)
    {od_room an_room : Option Addr} {sl_room : Array (Option Value)} {oc_room kV_room dc_room pm_room cd_room ct_room : Value} {f_room : Addr}
    (a_room : PySem.W.nsIn K mainGlobals "room" = some (some (.ref f_room))) (l_room : K.lookup f_room = some ⟨oc_room, od_room, .func (PySem.W.fnOf "room" "room" (defArgs s_room) (defBody s_room) (defScope s_room) .none kV_room dc_room pm_room an_room cd_room ct_room), sl_room⟩) (o_room : PySem.W.codeIn K cd_room "room" = true) (k_room : PySem.W.keepIn K (.ref f_room) = true)
    {od_confined an_confined : Option Addr} {sl_confined : Array (Option Value)} {oc_confined kV_confined dc_confined pm_confined cd_confined ct_confined : Value} {f_confined : Addr}
    (a_confined : PySem.W.nsIn K mainGlobals "confined" = some (some (.ref f_confined))) (l_confined : K.lookup f_confined = some ⟨oc_confined, od_confined, .func (PySem.W.fnOf "confined" "confined" (defArgs s_confined) (defBody s_confined) (defScope s_confined) .none kV_confined dc_confined pm_confined an_confined cd_confined ct_confined), sl_confined⟩) (o_confined : PySem.W.codeIn K cd_confined "confined" = true) (k_confined : PySem.W.keepIn K (.ref f_confined) = true)
    {od_first_shortage an_first_shortage : Option Addr} {sl_first_shortage : Array (Option Value)} {oc_first_shortage kV_first_shortage dc_first_shortage pm_first_shortage cd_first_shortage ct_first_shortage : Value} {f_first_shortage : Addr}
    (a_first_shortage : PySem.W.nsIn K mainGlobals "first_shortage" = some (some (.ref f_first_shortage))) (l_first_shortage : K.lookup f_first_shortage = some ⟨oc_first_shortage, od_first_shortage, .func (PySem.W.fnOf "first_shortage" "first_shortage" (defArgs s_first_shortage) (defBody s_first_shortage) (defScope s_first_shortage) .none kV_first_shortage dc_first_shortage pm_first_shortage an_first_shortage cd_first_shortage ct_first_shortage), sl_first_shortage⟩) (o_first_shortage : PySem.W.codeIn K cd_first_shortage "first_shortage" = true) (k_first_shortage : PySem.W.keepIn K (.ref f_first_shortage) = true)
    {od_are_ascending an_are_ascending : Option Addr} {sl_are_ascending : Array (Option Value)} {oc_are_ascending kV_are_ascending dc_are_ascending pm_are_ascending cd_are_ascending ct_are_ascending : Value} {f_are_ascending : Addr}
    (a_are_ascending : PySem.W.nsIn K mainGlobals "are_ascending" = some (some (.ref f_are_ascending))) (l_are_ascending : K.lookup f_are_ascending = some ⟨oc_are_ascending, od_are_ascending, .func (PySem.W.fnOf "are_ascending" "are_ascending" (defArgs s_are_ascending) (defBody s_are_ascending) (defScope s_are_ascending) .none kV_are_ascending dc_are_ascending pm_are_ascending an_are_ascending cd_are_ascending ct_are_ascending), sl_are_ascending⟩) (o_are_ascending : PySem.W.codeIn K cd_are_ascending "are_ascending" = true) (k_are_ascending : PySem.W.keepIn K (.ref f_are_ascending) = true)
    {od_is_shortage an_is_shortage : Option Addr} {sl_is_shortage : Array (Option Value)} {oc_is_shortage kV_is_shortage dc_is_shortage pm_is_shortage cd_is_shortage ct_is_shortage : Value} {f_is_shortage : Addr}
    (a_is_shortage : PySem.W.nsIn K mainGlobals "is_shortage" = some (some (.ref f_is_shortage))) (l_is_shortage : K.lookup f_is_shortage = some ⟨oc_is_shortage, od_is_shortage, .func (PySem.W.fnOf "is_shortage" "is_shortage" (defArgs s_is_shortage) (defBody s_is_shortage) (defScope s_is_shortage) .none kV_is_shortage dc_is_shortage pm_is_shortage an_is_shortage cd_is_shortage ct_is_shortage), sl_is_shortage⟩) (o_is_shortage : PySem.W.codeIn K cd_is_shortage "is_shortage" = true) (k_is_shortage : PySem.W.keepIn K (.ref f_is_shortage) = true)
    {od_spare_after an_spare_after : Option Addr} {sl_spare_after : Array (Option Value)} {oc_spare_after kV_spare_after dc_spare_after pm_spare_after cd_spare_after ct_spare_after : Value} {f_spare_after : Addr}
    (a_spare_after : PySem.W.nsIn K mainGlobals "spare_after" = some (some (.ref f_spare_after))) (l_spare_after : K.lookup f_spare_after = some ⟨oc_spare_after, od_spare_after, .func (PySem.W.fnOf "spare_after" "spare_after" (defArgs s_spare_after) (defBody s_spare_after) (defScope s_spare_after) .none kV_spare_after dc_spare_after pm_spare_after an_spare_after cd_spare_after ct_spare_after), sl_spare_after⟩) (o_spare_after : PySem.W.codeIn K cd_spare_after "spare_after" = true) (k_spare_after : PySem.W.keepIn K (.ref f_spare_after) = true)
    {od_first_fit an_first_fit : Option Addr} {sl_first_fit : Array (Option Value)} {oc_first_fit kV_first_fit dc_first_fit pm_first_fit cd_first_fit ct_first_fit : Value} {f_first_fit : Addr}
    (a_first_fit : PySem.W.nsIn K mainGlobals "first_fit" = some (some (.ref f_first_fit))) (l_first_fit : K.lookup f_first_fit = some ⟨oc_first_fit, od_first_fit, .func (PySem.W.fnOf "first_fit" "first_fit" (defArgs s_first_fit) (defBody s_first_fit) (defScope s_first_fit) .none kV_first_fit dc_first_fit pm_first_fit an_first_fit cd_first_fit ct_first_fit), sl_first_fit⟩) (o_first_fit : PySem.W.codeIn K cd_first_fit "first_fit" = true) (k_first_fit : PySem.W.keepIn K (.ref f_first_fit) = true)
    {od_check_continuing an_check_continuing : Option Addr} {sl_check_continuing : Array (Option Value)} {oc_check_continuing kV_check_continuing dc_check_continuing pm_check_continuing cd_check_continuing ct_check_continuing : Value} {f_check_continuing : Addr}
    (a_check_continuing : PySem.W.nsIn K mainGlobals "check_continuing" = some (some (.ref f_check_continuing))) (l_check_continuing : K.lookup f_check_continuing = some ⟨oc_check_continuing, od_check_continuing, .func (PySem.W.fnOf "check_continuing" "check_continuing" (defArgs s_check_continuing) (defBody s_check_continuing) (defScope s_check_continuing) .none kV_check_continuing dc_check_continuing pm_check_continuing an_check_continuing cd_check_continuing ct_check_continuing), sl_check_continuing⟩) (o_check_continuing : PySem.W.codeIn K cd_check_continuing "check_continuing" = true) (k_check_continuing : PySem.W.keepIn K (.ref f_check_continuing) = true)
    {od_is_allowed an_is_allowed : Option Addr} {sl_is_allowed : Array (Option Value)} {oc_is_allowed kV_is_allowed dc_is_allowed pm_is_allowed cd_is_allowed ct_is_allowed : Value} {f_is_allowed : Addr}
    (a_is_allowed : PySem.W.nsIn K mainGlobals "is_allowed" = some (some (.ref f_is_allowed))) (l_is_allowed : K.lookup f_is_allowed = some ⟨oc_is_allowed, od_is_allowed, .func (PySem.W.fnOf "is_allowed" "is_allowed" (defArgs s_is_allowed) (defBody s_is_allowed) (defScope s_is_allowed) .none kV_is_allowed dc_is_allowed pm_is_allowed an_is_allowed cd_is_allowed ct_is_allowed), sl_is_allowed⟩) (o_is_allowed : PySem.W.codeIn K cd_is_allowed "is_allowed" = true) (k_is_allowed : PySem.W.keepIn K (.ref f_is_allowed) = true)
    {od_allowed_for_all an_allowed_for_all : Option Addr} {sl_allowed_for_all : Array (Option Value)} {oc_allowed_for_all kV_allowed_for_all dc_allowed_for_all pm_allowed_for_all cd_allowed_for_all ct_allowed_for_all : Value} {f_allowed_for_all : Addr}
    (a_allowed_for_all : PySem.W.nsIn K mainGlobals "allowed_for_all" = some (some (.ref f_allowed_for_all))) (l_allowed_for_all : K.lookup f_allowed_for_all = some ⟨oc_allowed_for_all, od_allowed_for_all, .func (PySem.W.fnOf "allowed_for_all" "allowed_for_all" (defArgs s_allowed_for_all) (defBody s_allowed_for_all) (defScope s_allowed_for_all) .none kV_allowed_for_all dc_allowed_for_all pm_allowed_for_all an_allowed_for_all cd_allowed_for_all ct_allowed_for_all), sl_allowed_for_all⟩) (o_allowed_for_all : PySem.W.codeIn K cd_allowed_for_all "allowed_for_all" = true) (k_allowed_for_all : PySem.W.keepIn K (.ref f_allowed_for_all) = true)
    {od_allowed_variants an_allowed_variants : Option Addr} {sl_allowed_variants : Array (Option Value)} {oc_allowed_variants kV_allowed_variants dc_allowed_variants pm_allowed_variants cd_allowed_variants ct_allowed_variants : Value} {f_allowed_variants : Addr}
    (a_allowed_variants : PySem.W.nsIn K mainGlobals "allowed_variants" = some (some (.ref f_allowed_variants))) (l_allowed_variants : K.lookup f_allowed_variants = some ⟨oc_allowed_variants, od_allowed_variants, .func (PySem.W.fnOf "allowed_variants" "allowed_variants" (defArgs s_allowed_variants) (defBody s_allowed_variants) (defScope s_allowed_variants) .none kV_allowed_variants dc_allowed_variants pm_allowed_variants an_allowed_variants cd_allowed_variants ct_allowed_variants), sl_allowed_variants⟩) (o_allowed_variants : PySem.W.codeIn K cd_allowed_variants "allowed_variants" = true) (k_allowed_variants : PySem.W.keepIn K (.ref f_allowed_variants) = true)
    {od_continuation an_continuation : Option Addr} {sl_continuation : Array (Option Value)} {oc_continuation kV_continuation dc_continuation pm_continuation cd_continuation ct_continuation : Value} {f_continuation : Addr}
    (a_continuation : PySem.W.nsIn K mainGlobals "continuation" = some (some (.ref f_continuation))) (l_continuation : K.lookup f_continuation = some ⟨oc_continuation, od_continuation, .func (PySem.W.fnOf "continuation" "continuation" (defArgs s_continuation) (defBody s_continuation) (defScope s_continuation) .none kV_continuation dc_continuation pm_continuation an_continuation cd_continuation ct_continuation), sl_continuation⟩) (o_continuation : PySem.W.codeIn K cd_continuation "continuation" = true) (k_continuation : PySem.W.keepIn K (.ref f_continuation) = true)
    {od_why_none an_why_none : Option Addr} {sl_why_none : Array (Option Value)} {oc_why_none kV_why_none dc_why_none pm_why_none cd_why_none ct_why_none : Value} {f_why_none : Addr}
    (a_why_none : PySem.W.nsIn K mainGlobals "why_none" = some (some (.ref f_why_none))) (l_why_none : K.lookup f_why_none = some ⟨oc_why_none, od_why_none, .func (PySem.W.fnOf "why_none" "why_none" (defArgs s_why_none) (defBody s_why_none) (defScope s_why_none) .none kV_why_none dc_why_none pm_why_none an_why_none cd_why_none ct_why_none), sl_why_none⟩) (o_why_none : PySem.W.codeIn K cd_why_none "why_none" = true) (k_why_none : PySem.W.keepIn K (.ref f_why_none) = true)
    {od_is_needless an_is_needless : Option Addr} {sl_is_needless : Array (Option Value)} {oc_is_needless kV_is_needless dc_is_needless pm_is_needless cd_is_needless ct_is_needless : Value} {f_is_needless : Addr}
    (a_is_needless : PySem.W.nsIn K mainGlobals "is_needless" = some (some (.ref f_is_needless))) (l_is_needless : K.lookup f_is_needless = some ⟨oc_is_needless, od_is_needless, .func (PySem.W.fnOf "is_needless" "is_needless" (defArgs s_is_needless) (defBody s_is_needless) (defScope s_is_needless) .none kV_is_needless dc_is_needless pm_is_needless an_is_needless cd_is_needless ct_is_needless), sl_is_needless⟩) (o_is_needless : PySem.W.codeIn K cd_is_needless "is_needless" = true) (k_is_needless : PySem.W.keepIn K (.ref f_is_needless) = true)
    {od_accepts_none an_accepts_none : Option Addr} {sl_accepts_none : Array (Option Value)} {oc_accepts_none kV_accepts_none dc_accepts_none pm_accepts_none cd_accepts_none ct_accepts_none : Value} {f_accepts_none : Addr}
    (a_accepts_none : PySem.W.nsIn K mainGlobals "accepts_none" = some (some (.ref f_accepts_none))) (l_accepts_none : K.lookup f_accepts_none = some ⟨oc_accepts_none, od_accepts_none, .func (PySem.W.fnOf "accepts_none" "accepts_none" (defArgs s_accepts_none) (defBody s_accepts_none) (defScope s_accepts_none) .none kV_accepts_none dc_accepts_none pm_accepts_none an_accepts_none cd_accepts_none ct_accepts_none), sl_accepts_none⟩) (o_accepts_none : PySem.W.codeIn K cd_accepts_none "accepts_none" = true) (k_accepts_none : PySem.W.keepIn K (.ref f_accepts_none) = true)
    {od__law_stream an__law_stream : Option Addr} {sl__law_stream : Array (Option Value)} {oc__law_stream kV__law_stream dc__law_stream pm__law_stream cd__law_stream ct__law_stream : Value} {f__law_stream : Addr}
    (a__law_stream : PySem.W.nsIn K mainGlobals "_law_stream" = some (some (.ref f__law_stream))) (l__law_stream : K.lookup f__law_stream = some ⟨oc__law_stream, od__law_stream, .func (PySem.W.fnOf "_law_stream" "_law_stream" (defArgs s__law_stream) (defBody s__law_stream) (defScope s__law_stream) .none kV__law_stream dc__law_stream pm__law_stream an__law_stream cd__law_stream ct__law_stream), sl__law_stream⟩) (o__law_stream : PySem.W.codeIn K cd__law_stream "_law_stream" = true) (k__law_stream : PySem.W.keepIn K (.ref f__law_stream) = true)
    {od__law_next an__law_next : Option Addr} {sl__law_next : Array (Option Value)} {oc__law_next kV__law_next dc__law_next pm__law_next cd__law_next ct__law_next : Value} {f__law_next : Addr}
    (a__law_next : PySem.W.nsIn K mainGlobals "_law_next" = some (some (.ref f__law_next))) (l__law_next : K.lookup f__law_next = some ⟨oc__law_next, od__law_next, .func (PySem.W.fnOf "_law_next" "_law_next" (defArgs s__law_next) (defBody s__law_next) (defScope s__law_next) .none kV__law_next dc__law_next pm__law_next an__law_next cd__law_next ct__law_next), sl__law_next⟩) (o__law_next : PySem.W.codeIn K cd__law_next "_law_next" = true) (k__law_next : PySem.W.keepIn K (.ref f__law_next) = true)
    {od__law_ask an__law_ask : Option Addr} {sl__law_ask : Array (Option Value)} {oc__law_ask kV__law_ask dc__law_ask pm__law_ask cd__law_ask ct__law_ask : Value} {f__law_ask : Addr}
    (a__law_ask : PySem.W.nsIn K mainGlobals "_law_ask" = some (some (.ref f__law_ask))) (l__law_ask : K.lookup f__law_ask = some ⟨oc__law_ask, od__law_ask, .func (PySem.W.fnOf "_law_ask" "_law_ask" (defArgs s__law_ask) (defBody s__law_ask) (defScope s__law_ask) .none kV__law_ask dc__law_ask pm__law_ask an__law_ask cd__law_ask ct__law_ask), sl__law_ask⟩) (o__law_ask : PySem.W.codeIn K cd__law_ask "_law_ask" = true) (k__law_ask : PySem.W.keepIn K (.ref f__law_ask) = true)
    {od__law_told an__law_told : Option Addr} {sl__law_told : Array (Option Value)} {oc__law_told kV__law_told dc__law_told pm__law_told cd__law_told ct__law_told : Value} {f__law_told : Addr}
    (a__law_told : PySem.W.nsIn K mainGlobals "_law_told" = some (some (.ref f__law_told))) (l__law_told : K.lookup f__law_told = some ⟨oc__law_told, od__law_told, .func (PySem.W.fnOf "_law_told" "_law_told" (defArgs s__law_told) (defBody s__law_told) (defScope s__law_told) .none kV__law_told dc__law_told pm__law_told an__law_told cd__law_told ct__law_told), sl__law_told⟩) (o__law_told : PySem.W.codeIn K cd__law_told "_law_told" = true) (k__law_told : PySem.W.keepIn K (.ref f__law_told) = true)
    {od__law_named an__law_named : Option Addr} {sl__law_named : Array (Option Value)} {oc__law_named kV__law_named dc__law_named pm__law_named cd__law_named ct__law_named : Value} {f__law_named : Addr}
    (a__law_named : PySem.W.nsIn K mainGlobals "_law_named" = some (some (.ref f__law_named))) (l__law_named : K.lookup f__law_named = some ⟨oc__law_named, od__law_named, .func (PySem.W.fnOf "_law_named" "_law_named" (defArgs s__law_named) (defBody s__law_named) (defScope s__law_named) .none kV__law_named dc__law_named pm__law_named an__law_named cd__law_named ct__law_named), sl__law_named⟩) (o__law_named : PySem.W.codeIn K cd__law_named "_law_named" = true) (k__law_named : PySem.W.keepIn K (.ref f__law_named) = true)
    {od_law an_law : Option Addr} {sl_law : Array (Option Value)} {oc_law kV_law dc_law pm_law cd_law ct_law : Value} {f_law : Addr}
    (a_law : PySem.W.nsIn K mainGlobals "law" = some (some (.ref f_law))) (l_law : K.lookup f_law = some ⟨oc_law, od_law, .func (PySem.W.fnOf "law" "law" (defArgs s_law) (defBody s_law) (defScope s_law) .none kV_law dc_law pm_law an_law cd_law ct_law), sl_law⟩) (o_law : PySem.W.codeIn K cd_law "law" = true) (k_law : PySem.W.keepIn K (.ref f_law) = true)
    (z_ValueError : PySem.W.nsIn K mainGlobals "ValueError" = some none)
    (z_abs : PySem.W.nsIn K mainGlobals "abs" = some none)
    (z_all : PySem.W.nsIn K mainGlobals "all" = some none)
    (z_bool : PySem.W.nsIn K mainGlobals "bool" = some none)
    (z_enumerate : PySem.W.nsIn K mainGlobals "enumerate" = some none)
    (z_int : PySem.W.nsIn K mainGlobals "int" = some none)
    (z_isinstance : PySem.W.nsIn K mainGlobals "isinstance" = some none)
    (z_len : PySem.W.nsIn K mainGlobals "len" = some none)
    (z_list : PySem.W.nsIn K mainGlobals "list" = some none)
    (z_max : PySem.W.nsIn K mainGlobals "max" = some none)
    (z_min : PySem.W.nsIn K mainGlobals "min" = some none)
    (z_range : PySem.W.nsIn K mainGlobals "range" = some none)
    (z_set : PySem.W.nsIn K mainGlobals "set" = some none)
    (z_sorted : PySem.W.nsIn K mainGlobals "sorted" = some none)
    (z_sum : PySem.W.nsIn K mainGlobals "sum" = some none)
    (z_tuple : PySem.W.nsIn K mainGlobals "tuple" = some none)
    (z_zip : PySem.W.nsIn K mainGlobals "zip" = some none)
    {tk_MOST_VARIANTS : Tok} (g_MOST_VARIANTS : PySem.W.nsIn K mainGlobals "MOST_VARIANTS" = some (some (.int 5 tk_MOST_VARIANTS)))
    {tk_MOST_BUCKETS : Tok} (g_MOST_BUCKETS : PySem.W.nsIn K mainGlobals "MOST_BUCKETS" = some (some (.int 20 tk_MOST_BUCKETS)))
    {tk_MOST_PAIRS : Tok} (g_MOST_PAIRS : PySem.W.nsIn K mainGlobals "MOST_PAIRS" = some (some (.int 20 tk_MOST_PAIRS)))
    {tk_CONTROL : Tok} (g_CONTROL : PySem.W.nsIn K mainGlobals "CONTROL" = some (some (.int 0 tk_CONTROL)))
    (i_combinations : PySem.W.nsIn K mainGlobals "combinations" = some (some (.type "itertools.combinations")))
    {xC_BadValue xI_BadValue xcc_BadValue xcda_BadValue : Addr} {xkV_BadValue xdoc_BadValue xpm_BadValue xct_BadValue xoc_BadValue xcl_BadValue xccl_BadValue : Value} {xan_BadValue xod_BadValue xcdd_BadValue xcld_BadValue : Option Addr} {xosl_BadValue xcsl_BadValue xccs_BadValue : Array (Option Value)} {xvs_BadValue : Array Value} {xfile_BadValue : Str} {xtf_BadValue : Tok}
    {xnm_BadValue xq_BadValue : Str} {xN_BadValue : Addr} {xbs_BadValue xbm_BadValue xsub_BadValue : List Value} {xsn_BadValue : List Str} {xab_BadValue : Bool} {xcol_BadValue : Option Bool} {xdd_BadValue : Option Addr} {x0_BadValue x1_BadValue x2_BadValue x3_BadValue x5_BadValue : Option Value} {xcd_BadValue : ClassData}
    (xa_BadValue : PySem.W.nsIn K mainGlobals "BadValue" = some (some (.ref xC_BadValue))) (xi_BadValue : PySem.W.findIn K (.ref xC_BadValue) "__init__" = some (some (.ref xI_BadValue)))
    (xl_BadValue : K.lookup xI_BadValue = some ⟨xoc_BadValue, xod_BadValue, .func (PySem.W.ksFn "__init__" "BadValue.__init__" (defArgs s_ini_BadValue) (defBody s_ini_BadValue) (defScope s_ini_BadValue) .none xkV_BadValue xdoc_BadValue xpm_BadValue xan_BadValue (.ref xcda_BadValue) xct_BadValue xcc_BadValue), xosl_BadValue⟩)
    (xo_BadValue : PySem.W.codeIn K (.ref xcda_BadValue) "BadValue.__init__" = true) (xd_BadValue : K.lookup xcda_BadValue = some ⟨xccl_BadValue, xcdd_BadValue, .fields xvs_BadValue, xccs_BadValue⟩) (xv_BadValue : xvs_BadValue[2]? = some (.str xfile_BadValue xtf_BadValue)) (xf_BadValue : ((l.prog.main.file : Str) == xfile_BadValue) = true)
    (xc_BadValue : K.lookup xcc_BadValue = some ⟨xcl_BadValue, xcld_BadValue, .cell (some (.ref xC_BadValue)), xcsl_BadValue⟩) (xk_BadValue : K.lookup xC_BadValue = some (excClassObj xnm_BadValue xq_BadValue xC_BadValue xN_BadValue xbs_BadValue xbm_BadValue true xsn_BadValue xsub_BadValue xab_BadValue xcol_BadValue xdd_BadValue x0_BadValue x1_BadValue x2_BadValue x3_BadValue x5_BadValue "ValueError.__new__")) (xr_BadValue : PySem.HandSPX.refsVE xbm_BadValue = true)
    (xs_BadValue : PySem.W.findIn K (.ref xC_BadValue) "__setattr__" = some (some (.builtin "object.__setattr__"))) (xb_BadValue : PySem.W.subIn K (.ref xC_BadValue) (.type "BaseException") = some true) (xt_BadValue : PySem.W.typeIn K (.ref xC_BadValue) = some (.type "type")) (xp_BadValue : PySem.W.keepIn K (.ref xC_BadValue) = true)
    (xw_BadValue : PySem.W.subIn K (.ref xC_BadValue) (.type "ValueError") = some true) (xz_BadValue : PySem.W.nsIn K cStatics "thirdparty.any" = some none) (xu_BadValue : PySem.W.ks_superIn K xC_BadValue xC_BadValue "__init__" = some (some (.builtin "ValueError.__init__"))) (xy_BadValue : PySem.W.typeIn K (.ref xI_BadValue) = some (.type "function"))
    (xg_BadValue : PySem.W.findIn K (.ref xC_BadValue) "__getattribute__" = some (some (.builtin "BaseException.__getattribute__"))) (xh_BadValue : PySem.W.findIn K (.ref xC_BadValue) "__getattr__" = some none) (xD_BadValue : PySem.W.hasDictIn K xC_BadValue = true) (xn_BadValue : PySem.W.findIn K (.ref xC_BadValue) "name" = some none)
    (xe_BadValue : PySem.W.clsIn K xC_BadValue = some xcd_BadValue) (xx_BadValue : PySem.W.subIn K (.ref xC_BadValue) (.ref xC_BadValue) = some true) (xj_BadValue : PySem.W.nsIn K mainGlobals "super" = some none) (xm_BadValue : (l.prog.main.scope.names.lookup ("super" : Str)).isSome = false)
    {xL0 : Addr} (yA_L : PySem.W.findIn K (.ref xC_BadValue) "__class__" = some (some (.builtin "object.__class__"))) (yN_L : PySem.W.specialIn K (.builtin "object.__class__") "__get__" = some (some (.builtin "getset_descriptor.__get__"))) (yT_L : PySem.W.takesIn K (.builtin "object.__class__") = some true) (yM_L : PySem.W.mroIn K xC_BadValue (.type "object") = some true)
    (yL_L : PySem.W.nsIn K mainGlobals "LeastError" = some (some (.ref xL0))) (yB_L : PySem.W.subIn K (.ref xL0) (.type "BaseException") = some true) (yD_L : PySem.W.hasDictIn K xL0 = true) (yY_L : PySem.W.typeIn K (.ref xL0) = some (.type "type")) (yS_L : PySem.W.subIn K (.ref xC_BadValue) (.ref xL0) = some true) :
    ∃ fd : FuncData, (∀ (s : Shared) (v : Value), BindsTo s fd ⟨[v], []⟩ [("script", v)]) ∧ ∀ base : Heap, K.In base → base.Ns mainGlobals mg → FnOk l.prog w K mg base CX0 15 fa fd ["script"] (spLaw K) := by
  have e := hfa.symm.trans (PySem.W.mg_of X G a_law)
  cases e
  have T : Txt mg := { b_ValueError := PySem.W.mg_none_of X G z_ValueError, b_abs := PySem.W.mg_none_of X G z_abs, b_all := PySem.W.mg_none_of X G z_all, b_bool := PySem.W.mg_none_of X G z_bool, b_enumerate := PySem.W.mg_none_of X G z_enumerate, b_int := PySem.W.mg_none_of X G z_int, b_isinstance := PySem.W.mg_none_of X G z_isinstance, b_len := PySem.W.mg_none_of X G z_len, b_list := PySem.W.mg_none_of X G z_list, b_max := PySem.W.mg_none_of X G z_max, b_min := PySem.W.mg_none_of X G z_min, b_range := PySem.W.mg_none_of X G z_range, b_set := PySem.W.mg_none_of X G z_set, b_sorted := PySem.W.mg_none_of X G z_sorted, b_sum := PySem.W.mg_none_of X G z_sum, b_tuple := PySem.W.mg_none_of X G z_tuple, b_zip := PySem.W.mg_none_of X G z_zip, k_MOST_VARIANTS := ⟨_, PySem.W.mg_of X G g_MOST_VARIANTS⟩, k_MOST_BUCKETS := ⟨_, PySem.W.mg_of X G g_MOST_BUCKETS⟩, k_MOST_PAIRS := ⟨_, PySem.W.mg_of X G g_MOST_PAIRS⟩, k_CONTROL := ⟨_, PySem.W.mg_of X G g_CONTROL⟩, i_combinations := PySem.W.mg_of X G i_combinations }
  have F_is_integer := fun_mk (st := s_is_integer) l_is_integer o_is_integer k_is_integer
  have b_is_integer := F_is_integer.binds (ps := p_is_integer) fun _ _ _ _ _ _ us hl => match us, hl with | [_, _, _], _ => rfl
  have m_is_integer := PySem.W.mg_of X G a_is_integer
  have F_are_integers := fun_mk (st := s_are_integers) l_are_integers o_are_integers k_are_integers
  have b_are_integers := F_are_integers.binds (ps := p_are_integers) fun _ _ _ _ _ _ us hl => match us, hl with | [_, _, _], _ => rfl
  have m_are_integers := PySem.W.mg_of X G a_are_integers
  have F_require := fun_mk (st := s_require) l_require o_require k_require
  have b_require := F_require.binds (ps := p_require) fun _ _ _ _ _ _ us hl => match us, hl with | [_, _], _ => rfl
  have m_require := PySem.W.mg_of X G a_require
  have F_check_variants := fun_mk (st := s_check_variants) l_check_variants o_check_variants k_check_variants
  have b_check_variants := F_check_variants.binds (ps := p_check_variants) fun _ _ _ _ _ _ us hl => match us, hl with | [_], _ => rfl
  have m_check_variants := PySem.W.mg_of X G a_check_variants
  have F_check_sizes := fun_mk (st := s_check_sizes) l_check_sizes o_check_sizes k_check_sizes
  have b_check_sizes := F_check_sizes.binds (ps := p_check_sizes) fun _ _ _ _ _ _ us hl => match us, hl with | [_, _], _ => rfl
  have m_check_sizes := PySem.W.mg_of X G a_check_sizes
  have F_is_allocation := fun_mk (st := s_is_allocation) l_is_allocation o_is_allocation k_is_allocation
  have b_is_allocation := F_is_allocation.binds (ps := p_is_allocation) fun _ _ _ _ _ _ us hl => match us, hl with | [_, _, _], _ => rfl
  have m_is_allocation := PySem.W.mg_of X G a_is_allocation
  have F_is_bounded_allocation := fun_mk (st := s_is_bounded_allocation) l_is_bounded_allocation o_is_bounded_allocation k_is_bounded_allocation
  have b_is_bounded_allocation := F_is_bounded_allocation.binds (ps := p_is_bounded_allocation) fun _ _ _ _ _ _ us hl => match us, hl with | [_], _ => rfl
  have m_is_bounded_allocation := PySem.W.mg_of X G a_is_bounded_allocation
  have F_check_allocation := fun_mk (st := s_check_allocation) l_check_allocation o_check_allocation k_check_allocation
  have b_check_allocation := F_check_allocation.binds (ps := p_check_allocation) fun _ _ _ _ _ _ us hl => match us, hl with | [_, _], _ => rfl
  have m_check_allocation := PySem.W.mg_of X G a_check_allocation
  have F_check_alike := fun_mk (st := s_check_alike) l_check_alike o_check_alike k_check_alike
  have b_check_alike := F_check_alike.binds (ps := p_check_alike) fun _ _ _ _ _ _ us hl => match us, hl with | [_, _, _], _ => rfl
  have m_check_alike := PySem.W.mg_of X G a_check_alike
  have F_transfer := fun_mk (st := s_transfer) l_transfer o_transfer k_transfer
  have b_transfer := F_transfer.binds (ps := p_transfer) fun _ _ _ _ _ _ us hl => match us, hl with | [_, _], _ => rfl
  have m_transfer := PySem.W.mg_of X G a_transfer
  have F_is_assignment := fun_mk (st := s_is_assignment) l_is_assignment o_is_assignment k_is_assignment
  have b_is_assignment := F_is_assignment.binds (ps := p_is_assignment) fun _ _ _ _ _ _ us hl => match us, hl with | [_, _, _], _ => rfl
  have m_is_assignment := PySem.W.mg_of X G a_is_assignment
  have F_is_bounded_assignment := fun_mk (st := s_is_bounded_assignment) l_is_bounded_assignment o_is_bounded_assignment k_is_bounded_assignment
  have b_is_bounded_assignment := F_is_bounded_assignment.binds (ps := p_is_bounded_assignment) fun _ _ _ _ _ _ us hl => match us, hl with | [_, _], _ => rfl
  have m_is_bounded_assignment := PySem.W.mg_of X G a_is_bounded_assignment
  have F_check_assignment := fun_mk (st := s_check_assignment) l_check_assignment o_check_assignment k_check_assignment
  have b_check_assignment := F_check_assignment.binds (ps := p_check_assignment) fun _ _ _ _ _ _ us hl => match us, hl with | [_, _], _ => rfl
  have m_check_assignment := PySem.W.mg_of X G a_check_assignment
  have F_check_pair := fun_mk (st := s_check_pair) l_check_pair o_check_pair k_check_pair
  have b_check_pair := F_check_pair.binds (ps := p_check_pair) fun _ _ _ _ _ _ us hl => match us, hl with | [_, _], _ => rfl
  have m_check_pair := PySem.W.mg_of X G a_check_pair
  have F_check_enough := fun_mk (st := s_check_enough) l_check_enough o_check_enough k_check_enough
  have b_check_enough := F_check_enough.binds (ps := p_check_enough) fun _ _ _ _ _ _ us hl => match us, hl with | [_, _], _ => rfl
  have m_check_enough := PySem.W.mg_of X G a_check_enough
  have F_allocation_of := fun_mk (st := s_allocation_of) l_allocation_of o_allocation_of k_allocation_of
  have b_allocation_of := F_allocation_of.binds (ps := p_allocation_of) fun _ _ _ _ _ _ us hl => match us, hl with | [_, _], _ => rfl
  have m_allocation_of := PySem.W.mg_of X G a_allocation_of
  have F_is_assignment_of := fun_mk (st := s_is_assignment_of) l_is_assignment_of o_is_assignment_of k_is_assignment_of
  have b_is_assignment_of := F_is_assignment_of.binds (ps := p_is_assignment_of) fun _ _ _ _ _ _ us hl => match us, hl with | [_, _], _ => rfl
  have m_is_assignment_of := PySem.W.mg_of X G a_is_assignment_of
  have F_churn := fun_mk (st := s_churn) l_churn o_churn k_churn
  have b_churn := F_churn.binds (ps := p_churn) fun _ _ _ _ _ _ us hl => match us, hl with | [_, _], _ => rfl
  have m_churn := PySem.W.mg_of X G a_churn
  have F_moves := fun_mk (st := s_moves) l_moves o_moves k_moves
  have b_moves := F_moves.binds (ps := p_moves) fun _ _ _ _ _ _ us hl => match us, hl with | [_, _], _ => rfl
  have m_moves := PySem.W.mg_of X G a_moves
  have F_buckets_of := fun_mk (st := s_buckets_of) l_buckets_of o_buckets_of k_buckets_of
  have b_buckets_of := F_buckets_of.binds (ps := p_buckets_of) fun _ _ _ _ _ _ us hl => match us, hl with | [_, _], _ => rfl
  have m_buckets_of := PySem.W.mg_of X G a_buckets_of
  have F_check_bucket := fun_mk (st := s_check_bucket) l_check_bucket o_check_bucket k_check_bucket
  have b_check_bucket := F_check_bucket.binds (ps := p_check_bucket) fun _ _ _ _ _ _ us hl => match us, hl with | [_, _], _ => rfl
  have m_check_bucket := PySem.W.mg_of X G a_check_bucket
  have F_are_lists := fun_mk (st := s_are_lists) l_are_lists o_are_lists k_are_lists
  have b_are_lists := F_are_lists.binds (ps := p_are_lists) fun _ _ _ _ _ _ us hl => match us, hl with | [_, _, _], _ => rfl
  have m_are_lists := PySem.W.mg_of X G a_are_lists
  have F_short_list := fun_mk (st := s_short_list) l_short_list o_short_list k_short_list
  have b_short_list := F_short_list.binds (ps := p_short_list) fun _ _ _ _ _ _ us hl => match us, hl with | [_, _], _ => rfl
  have m_short_list := PySem.W.mg_of X G a_short_list
  have F_fits := fun_mk (st := s_fits) l_fits o_fits k_fits
  have b_fits := F_fits.binds (ps := p_fits) fun _ _ _ _ _ _ us hl => match us, hl with | [_, _], _ => rfl
  have m_fits := PySem.W.mg_of X G a_fits
  have F_check_rule := fun_mk (st := s_check_rule) l_check_rule o_check_rule k_check_rule
  have b_check_rule := F_check_rule.binds (ps := p_check_rule) fun _ _ _ _ _ _ us hl => match us, hl with | [_, _, _], _ => rfl
  have m_check_rule := PySem.W.mg_of X G a_check_rule
  have F_is_pair := fun_mk (st := s_is_pair) l_is_pair o_is_pair k_is_pair
  have b_is_pair := F_is_pair.binds (ps := p_is_pair) fun _ _ _ _ _ _ us hl => match us, hl with | [_, _, _], _ => rfl
  have m_is_pair := PySem.W.mg_of X G a_is_pair
  have F_is_rule := fun_mk (st := s_is_rule) l_is_rule o_is_rule k_is_rule
  have b_is_rule := F_is_rule.binds (ps := p_is_rule) fun _ _ _ _ _ _ us hl => match us, hl with | [_, _, _], _ => rfl
  have m_is_rule := PySem.W.mg_of X G a_is_rule
  have F_given_back := fun_mk (st := s_given_back) l_given_back o_given_back k_given_back
  have b_given_back := F_given_back.binds (ps := p_given_back) fun _ _ _ _ _ _ us hl => match us, hl with | [_, _], _ => rfl
  have m_given_back := PySem.W.mg_of X G a_given_back
  have F_missing := fun_mk (st := s_missing) l_missing o_missing k_missing
  have b_missing := F_missing.binds (ps := p_missing) fun _ _ _ _ _ _ us hl => match us, hl with | [_, _, _], _ => rfl
  have m_missing := PySem.W.mg_of X G a_missing
  have F_is_left := fun_mk (st := s_is_left) l_is_left o_is_left k_is_left
  have b_is_left := F_is_left.binds (ps := p_is_left) fun _ _ _ _ _ _ us hl => match us, hl with | [_, _, _], _ => rfl
  have m_is_left := PySem.W.mg_of X G a_is_left
  have F_first_left := fun_mk (st := s_first_left) l_first_left o_first_left k_first_left
  have b_first_left := F_first_left.binds (ps := p_first_left) fun _ _ _ _ _ _ us hl => match us, hl with | [_, _], _ => rfl
  have m_first_left := PySem.W.mg_of X G a_first_left
  have F_needless_leave := fun_mk (st := s_needless_leave) l_needless_leave o_needless_leave k_needless_leave
  have b_needless_leave := F_needless_leave.binds (ps := p_needless_leave) fun _ _ _ _ _ _ us hl => match us, hl with | [_, _, _], _ => rfl
  have m_needless_leave := PySem.W.mg_of X G a_needless_leave
  have F_leaves := fun_mk (st := s_leaves) l_leaves o_leaves k_leaves
  have b_leaves := F_leaves.binds (ps := p_leaves) fun _ _ _ _ _ _ us hl => match us, hl with | [_, _, _, _, _, _], _ => rfl
  have m_leaves := PySem.W.mg_of X G a_leaves
  have F_lists_of_rule := fun_mk (st := s_lists_of_rule) l_lists_of_rule o_lists_of_rule k_lists_of_rule
  have b_lists_of_rule := F_lists_of_rule.binds (ps := p_lists_of_rule) fun _ _ _ _ _ _ us hl => match us, hl with | [_, _, _], _ => rfl
  have m_lists_of_rule := PySem.W.mg_of X G a_lists_of_rule
  have F_serves_rule := fun_mk (st := s_serves_rule) l_serves_rule o_serves_rule k_serves_rule
  have b_serves_rule := F_serves_rule.binds (ps := p_serves_rule) fun _ _ _ _ _ _ us hl => match us, hl with | [_, _, _, _], _ => rfl
  have m_serves_rule := PySem.W.mg_of X G a_serves_rule
  have F_most_waste := fun_mk (st := s_most_waste) l_most_waste o_most_waste k_most_waste
  have b_most_waste := F_most_waste.binds (ps := p_most_waste) fun _ _ _ _ _ _ us hl => match us, hl with | [_, _, _], _ => rfl
  have m_most_waste := PySem.W.mg_of X G a_most_waste
  have F_variant_sets := fun_mk (st := s_variant_sets) l_variant_sets o_variant_sets k_variant_sets
  have b_variant_sets := F_variant_sets.binds (ps := p_variant_sets) fun _ _ _ _ _ _ us hl => match us, hl with | [_], _ => rfl
  have m_variant_sets := PySem.W.mg_of X G a_variant_sets
  have F_is_inside := fun_mk (st := s_is_inside) l_is_inside o_is_inside k_is_inside
  have b_is_inside := F_is_inside.binds (ps := p_is_inside) fun _ _ _ _ _ _ us hl => match us, hl with | [_, _], _ => rfl
  have m_is_inside := PySem.W.mg_of X G a_is_inside
  have F_room := fun_mk (st := s_room) l_room o_room k_room
  have b_room := F_room.binds (ps := p_room) fun _ _ _ _ _ _ us hl => match us, hl with | [_, _], _ => rfl
  have m_room := PySem.W.mg_of X G a_room
  have F_confined := fun_mk (st := s_confined) l_confined o_confined k_confined
  have b_confined := F_confined.binds (ps := p_confined) fun _ _ _ _ _ _ us hl => match us, hl with | [_, _], _ => rfl
  have m_confined := PySem.W.mg_of X G a_confined
  have F_first_shortage := fun_mk (st := s_first_shortage) l_first_shortage o_first_shortage k_first_shortage
  have b_first_shortage := F_first_shortage.binds (ps := p_first_shortage) fun _ _ _ _ _ _ us hl => match us, hl with | [_, _], _ => rfl
  have m_first_shortage := PySem.W.mg_of X G a_first_shortage
  have F_are_ascending := fun_mk (st := s_are_ascending) l_are_ascending o_are_ascending k_are_ascending
  have b_are_ascending := F_are_ascending.binds (ps := p_are_ascending) fun _ _ _ _ _ _ us hl => match us, hl with | [_, _], _ => rfl
  have m_are_ascending := PySem.W.mg_of X G a_are_ascending
  have F_is_shortage := fun_mk (st := s_is_shortage) l_is_shortage o_is_shortage k_is_shortage
  have b_is_shortage := F_is_shortage.binds (ps := p_is_shortage) fun _ _ _ _ _ _ us hl => match us, hl with | [_, _, _], _ => rfl
  have m_is_shortage := PySem.W.mg_of X G a_is_shortage
  have F_spare_after := fun_mk (st := s_spare_after) l_spare_after o_spare_after k_spare_after
  have b_spare_after := F_spare_after.binds (ps := p_spare_after) fun _ _ _ _ _ _ us hl => match us, hl with | [_, _, _, _], _ => rfl
  have m_spare_after := PySem.W.mg_of X G a_spare_after
  have F_first_fit := fun_mk (st := s_first_fit) l_first_fit o_first_fit k_first_fit
  have b_first_fit := F_first_fit.binds (ps := p_first_fit) fun _ _ _ _ _ _ us hl => match us, hl with | [_, _], _ => rfl
  have m_first_fit := PySem.W.mg_of X G a_first_fit
  have F_check_continuing := fun_mk (st := s_check_continuing) l_check_continuing o_check_continuing k_check_continuing
  have b_check_continuing := F_check_continuing.binds (ps := p_check_continuing) fun _ _ _ _ _ _ us hl => match us, hl with | [_, _, _, _], _ => rfl
  have m_check_continuing := PySem.W.mg_of X G a_check_continuing
  have F_is_allowed := fun_mk (st := s_is_allowed) l_is_allowed o_is_allowed k_is_allowed
  have b_is_allowed := F_is_allowed.binds (ps := p_is_allowed) fun _ _ _ _ _ _ us hl => match us, hl with | [_, _, _, _], _ => rfl
  have m_is_allowed := PySem.W.mg_of X G a_is_allowed
  have F_allowed_for_all := fun_mk (st := s_allowed_for_all) l_allowed_for_all o_allowed_for_all k_allowed_for_all
  have b_allowed_for_all := F_allowed_for_all.binds (ps := p_allowed_for_all) fun _ _ _ _ _ _ us hl => match us, hl with | [_, _, _, _], _ => rfl
  have m_allowed_for_all := PySem.W.mg_of X G a_allowed_for_all
  have F_allowed_variants := fun_mk (st := s_allowed_variants) l_allowed_variants o_allowed_variants k_allowed_variants
  have b_allowed_variants := F_allowed_variants.binds (ps := p_allowed_variants) fun _ _ _ _ _ _ us hl => match us, hl with | [_, _, _, _], _ => rfl
  have m_allowed_variants := PySem.W.mg_of X G a_allowed_variants
  have F_continuation := fun_mk (st := s_continuation) l_continuation o_continuation k_continuation
  have b_continuation := F_continuation.binds (ps := p_continuation) fun _ _ _ _ _ _ us hl => match us, hl with | [_, _, _, _], _ => rfl
  have m_continuation := PySem.W.mg_of X G a_continuation
  have F_why_none := fun_mk (st := s_why_none) l_why_none o_why_none k_why_none
  have b_why_none := F_why_none.binds (ps := p_why_none) fun _ _ _ _ _ _ us hl => match us, hl with | [_, _, _, _], _ => rfl
  have m_why_none := PySem.W.mg_of X G a_why_none
  have F_is_needless := fun_mk (st := s_is_needless) l_is_needless o_is_needless k_is_needless
  have b_is_needless := F_is_needless.binds (ps := p_is_needless) fun _ _ _ _ _ _ us hl => match us, hl with | [_, _, _], _ => rfl
  have m_is_needless := PySem.W.mg_of X G a_is_needless
  have F_accepts_none := fun_mk (st := s_accepts_none) l_accepts_none o_accepts_none k_accepts_none
  have b_accepts_none := F_accepts_none.binds (ps := p_accepts_none) fun _ _ _ _ _ _ us hl => match us, hl with | [_, _, _, _, _], _ => rfl
  have m_accepts_none := PySem.W.mg_of X G a_accepts_none
  have F__law_stream := fun_mk (st := s__law_stream) l__law_stream o__law_stream k__law_stream
  have b__law_stream := F__law_stream.binds (ps := p__law_stream) fun _ _ _ _ _ _ us hl => match us, hl with | [_], _ => rfl
  have m__law_stream := PySem.W.mg_of X G a__law_stream
  have F__law_next := fun_mk (st := s__law_next) l__law_next o__law_next k__law_next
  have b__law_next := F__law_next.binds (ps := p__law_next) fun _ _ _ _ _ _ us hl => match us, hl with | [_, _], _ => rfl
  have m__law_next := PySem.W.mg_of X G a__law_next
  have F__law_ask := fun_mk (st := s__law_ask) l__law_ask o__law_ask k__law_ask
  have b__law_ask := F__law_ask.binds (ps := p__law_ask) fun _ _ _ _ _ _ us hl => match us, hl with | [_, _], _ => rfl
  have m__law_ask := PySem.W.mg_of X G a__law_ask
  have F__law_told := fun_mk (st := s__law_told) l__law_told o__law_told k__law_told
  have b__law_told := F__law_told.binds (ps := p__law_told) fun _ _ _ _ _ _ us hl => match us, hl with | [_, _], _ => rfl
  have m__law_told := PySem.W.mg_of X G a__law_told
  have F__law_named := fun_mk (st := s__law_named) l__law_named o__law_named k__law_named
  have b__law_named := F__law_named.binds (ps := p__law_named) fun _ _ _ _ _ _ us hl => match us, hl with | [_, _, _, _, _], _ => rfl
  have m__law_named := PySem.W.mg_of X G a__law_named
  have F_law := fun_mk (st := s_law) l_law o_law k_law
  have O_BadValue : OexC K xC_BadValue := ⟨⟨_, _, _, _, _, _, _, _, _, _, _, _, _, _, _, xk_BadValue, xr_BadValue⟩, xs_BadValue, xb_BadValue, xt_BadValue, xp_BadValue⟩
  have I_BadValue := fun base => ok_ini_BadValue (P := l.prog) (w := w) (mg := mg) (base := base) xl_BadValue xo_BadValue xd_BadValue xv_BadValue xf_BadValue xc_BadValue O_BadValue xn_BadValue (PySem.W.mg_none_of X G xj_BadValue) xw_BadValue xz_BadValue xu_BadValue xm_BadValue
  have J_BadValue : Binds K (PySem.W.ksFn "__init__" "BadValue.__init__" (defArgs s_ini_BadValue) (defBody s_ini_BadValue) (defScope s_ini_BadValue) .none xkV_BadValue xdoc_BadValue xpm_BadValue xan_BadValue (.ref xcda_BadValue) xct_BadValue xcc_BadValue) ["self", "name"] [] := .all fun us hl => match us, hl with | [_, _], _ => rfl
  have E_BadValue : ∀ base, Exc1 l.prog w K mg base "BadValue" "name" xC_BadValue := fun base => ⟨O_BadValue, ⟨xg_BadValue, xh_BadValue, xb_BadValue, xD_BadValue⟩, PySem.W.mg_of X G xa_BadValue, xn_BadValue, exm_self xb_BadValue xe_BadValue xt_BadValue xx_BadValue, _, _, xi_BadValue, xy_BadValue, I_BadValue base, J_BadValue⟩
  have H_BadValue : ExcH K mg xC_BadValue xL0 := ⟨⟨xg_BadValue, xh_BadValue, xb_BadValue, xD_BadValue, yA_L, yN_L, yT_L, yM_L⟩, PySem.W.mg_of X G yL_L, PySem.W.exm_ref yB_L yD_L yY_L yS_L, kit_val xw_BadValue⟩
  refine ⟨PySem.W.fnOf "law" "law" (defArgs s_law) (defBody s_law) (defScope s_law) .none kV_law dc_law pm_law an_law cd_law ct_law, fun s v => .of_eq rfl, fun base _ _ => ?_⟩
  have c_is_integer : Cal l.prog w K mg base CX0 1 "is_integer" p_is_integer (sp_is_integer K) := ⟨_, _, ok_is_integer F_is_integer T, m_is_integer, k_is_integer, b_is_integer⟩
  have c_require : Cal l.prog w K mg base CX0 1 "require" p_require (sp_require K) := ⟨_, _, ok_require F_require T, m_require, k_require, b_require⟩
  have c_fits : Cal l.prog w K mg base CX0 1 "fits" p_fits (sp_fits K) := ⟨_, _, ok_fits F_fits T, m_fits, k_fits, b_fits⟩
  have c_given_back : Cal l.prog w K mg base CX0 1 "given_back" p_given_back (sp_given_back K) := ⟨_, _, ok_given_back F_given_back T, m_given_back, k_given_back, b_given_back⟩
  have c_is_left : Cal l.prog w K mg base CX0 1 "is_left" p_is_left (sp_is_left K) := ⟨_, _, ok_is_left F_is_left T, m_is_left, k_is_left, b_is_left⟩
  have c_variant_sets : Cal l.prog w K mg base CX0 1 "variant_sets" p_variant_sets (sp_variant_sets K) := ⟨_, _, ok_variant_sets F_variant_sets T, m_variant_sets, k_variant_sets, b_variant_sets⟩
  have c_is_inside : Cal l.prog w K mg base CX0 1 "is_inside" p_is_inside (sp_is_inside K) := ⟨_, _, ok_is_inside F_is_inside T, m_is_inside, k_is_inside, b_is_inside⟩
  have c_room : Cal l.prog w K mg base CX0 1 "room" p_room (sp_room K) := ⟨_, _, ok_room F_room T, m_room, k_room, b_room⟩
  have c_is_allowed : Cal l.prog w K mg base CX0 1 "is_allowed" p_is_allowed (sp_is_allowed K) := ⟨_, _, ok_is_allowed F_is_allowed T, m_is_allowed, k_is_allowed, b_is_allowed⟩
  have c__law_stream : Cal l.prog w K mg base CX0 1 "_law_stream" p__law_stream (sp__law_stream K) := ⟨_, _, ok__law_stream F__law_stream T, m__law_stream, k__law_stream, b__law_stream⟩
  have c__law_next : Cal l.prog w K mg base CX0 1 "_law_next" p__law_next (sp__law_next K) := ⟨_, _, ok__law_next F__law_next T, m__law_next, k__law_next, b__law_next⟩
  have c_are_integers : Cal l.prog w K mg base CX0 2 "are_integers" p_are_integers (sp_are_integers K) := ⟨_, _, ok_are_integers F_are_integers T c_is_integer, m_are_integers, k_are_integers, b_are_integers⟩
  have c_check_variants : Cal l.prog w K mg base CX0 2 "check_variants" p_check_variants (sp_check_variants K) := ⟨_, _, ok_check_variants F_check_variants T c_require c_is_integer, m_check_variants, k_check_variants, b_check_variants⟩
  have c_check_enough : Cal l.prog w K mg base CX0 2 "check_enough" p_check_enough (sp_check_enough K) := ⟨_, _, ok_check_enough F_check_enough T c_require c_is_integer, m_check_enough, k_check_enough, b_check_enough⟩
  have c_check_bucket : Cal l.prog w K mg base CX0 2 "check_bucket" p_check_bucket (sp_check_bucket K) := ⟨_, _, ok_check_bucket F_check_bucket T c_require c_is_integer, m_check_bucket, k_check_bucket, b_check_bucket⟩
  have c_first_left : Cal l.prog w K mg base CX0 2 "first_left" p_first_left (sp_first_left K) := ⟨_, _, ok_first_left F_first_left T c_is_left, m_first_left, k_first_left, b_first_left⟩
  have c_confined : Cal l.prog w K mg base CX0 2 "confined" p_confined (sp_confined K) := ⟨_, _, ok_confined F_confined T c_is_inside, m_confined, k_confined, b_confined⟩
  have c_spare_after : Cal l.prog w K mg base CX0 2 "spare_after" p_spare_after (sp_spare_after K) := ⟨_, _, ok_spare_after F_spare_after T c_is_inside, m_spare_after, k_spare_after, b_spare_after⟩
  have c_allowed_for_all : Cal l.prog w K mg base CX0 2 "allowed_for_all" p_allowed_for_all (sp_allowed_for_all K) := ⟨_, _, ok_allowed_for_all F_allowed_for_all T c_is_allowed, m_allowed_for_all, k_allowed_for_all, b_allowed_for_all⟩
  have c_is_needless : Cal l.prog w K mg base CX0 2 "is_needless" p_is_needless (sp_is_needlessX K) := ⟨_, _, ok_is_needless F_is_needless T c_is_integer c_is_left, m_is_needless, k_is_needless, b_is_needless⟩
  have c_check_sizes : Cal l.prog w K mg base CX0 3 "check_sizes" p_check_sizes (sp_check_sizes K) := ⟨_, _, ok_check_sizes F_check_sizes T c_check_variants c_require c_is_integer, m_check_sizes, k_check_sizes, b_check_sizes⟩
  have c_is_allocation : Cal l.prog w K mg base CX0 3 "is_allocation" p_is_allocation (sp_is_allocation K) := ⟨_, _, ok_is_allocation F_is_allocation T c_are_integers, m_is_allocation, k_is_allocation, b_is_allocation⟩
  have c_is_bounded_allocation : Cal l.prog w K mg base CX0 3 "is_bounded_allocation" p_is_bounded_allocation (sp_is_bounded_allocation K) := ⟨_, _, ok_is_bounded_allocation F_is_bounded_allocation T c_are_integers, m_is_bounded_allocation, k_is_bounded_allocation, b_is_bounded_allocation⟩
  have c_is_assignment : Cal l.prog w K mg base CX0 3 "is_assignment" p_is_assignment (sp_is_assignment K) := ⟨_, _, ok_is_assignment F_is_assignment T c_are_integers, m_is_assignment, k_is_assignment, b_is_assignment⟩
  have c_is_bounded_assignment : Cal l.prog w K mg base CX0 3 "is_bounded_assignment" p_is_bounded_assignment (sp_is_bounded_assignment K) := ⟨_, _, ok_is_bounded_assignment F_is_bounded_assignment T c_are_integers, m_is_bounded_assignment, k_is_bounded_assignment, b_is_bounded_assignment⟩
  have c_are_lists : Cal l.prog w K mg base CX0 3 "are_lists" p_are_lists (sp_are_listsX K) := ⟨_, _, ok_are_lists F_are_lists T c_are_integers, m_are_lists, k_are_lists, b_are_lists⟩
  have c_first_shortage : Cal l.prog w K mg base CX0 3 "first_shortage" p_first_shortage (sp_first_shortage K) := ⟨_, _, ok_first_shortage F_first_shortage T c_variant_sets c_confined c_room, m_first_shortage, k_first_shortage, b_first_shortage⟩
  have c_are_ascending : Cal l.prog w K mg base CX0 3 "are_ascending" p_are_ascending (sp_are_ascendingX K) := ⟨_, _, ok_are_ascending F_are_ascending T c_are_integers, m_are_ascending, k_are_ascending, b_are_ascending⟩
  have c_first_fit : Cal l.prog w K mg base CX0 3 "first_fit" p_first_fit (sp_first_fit K) := ⟨_, _, ok_first_fit F_first_fit T c_variant_sets c_spare_after c_room c_confined, m_first_fit, k_first_fit, b_first_fit⟩
  have c_check_allocation : Cal l.prog w K mg base CX0 4 "check_allocation" p_check_allocation (sp_check_allocation K) := ⟨_, _, ok_check_allocation F_check_allocation T c_require c_is_bounded_allocation, m_check_allocation, k_check_allocation, b_check_allocation⟩
  have c_check_alike : Cal l.prog w K mg base CX0 4 "check_alike" p_check_alike (sp_check_alike K) := ⟨_, _, ok_check_alike F_check_alike T c_require c_is_allocation, m_check_alike, k_check_alike, b_check_alike⟩
  have c_check_assignment : Cal l.prog w K mg base CX0 4 "check_assignment" p_check_assignment (sp_check_assignment K) := ⟨_, _, ok_check_assignment F_check_assignment T c_require c_is_bounded_assignment, m_check_assignment, k_check_assignment, b_check_assignment⟩
  have c_is_shortage : Cal l.prog w K mg base CX0 4 "is_shortage" p_is_shortage (sp_is_shortageX K) := ⟨_, _, ok_is_shortage F_is_shortage T c_room c_are_ascending c_is_inside, m_is_shortage, k_is_shortage, b_is_shortage⟩
  have c_transfer : Cal l.prog w K mg base CX0 5 "transfer" p_transfer (sp_transfer K) := ⟨_, _, ok_transfer F_transfer T c_check_allocation c_check_alike, m_transfer, k_transfer, b_transfer⟩
  have c_check_pair : Cal l.prog w K mg base CX0 5 "check_pair" p_check_pair (sp_check_pair K) := ⟨_, _, ok_check_pair F_check_pair T c_check_assignment c_require c_is_assignment, m_check_pair, k_check_pair, b_check_pair⟩
  have c_allocation_of : Cal l.prog w K mg base CX0 5 "allocation_of" p_allocation_of (sp_allocation_of K) := ⟨_, _, ok_allocation_of F_allocation_of T c_check_assignment c_check_enough, m_allocation_of, k_allocation_of, b_allocation_of⟩
  have c_buckets_of : Cal l.prog w K mg base CX0 5 "buckets_of" p_buckets_of (sp_buckets_of K) := ⟨_, _, ok_buckets_of F_buckets_of T c_check_assignment c_require c_is_integer, m_buckets_of, k_buckets_of, b_buckets_of⟩
  have c_is_assignment_of : Cal l.prog w K mg base CX0 6 "is_assignment_of" p_is_assignment_of (sp_is_assignment_ofX K) := ⟨_, _, ok_is_assignment_of F_is_assignment_of T c_is_assignment c_allocation_of, m_is_assignment_of, k_is_assignment_of, b_is_assignment_of⟩
  have c_moves : Cal l.prog w K mg base CX0 6 "moves" p_moves (sp_moves K) := ⟨_, _, ok_moves F_moves T c_check_pair, m_moves, k_moves, b_moves⟩
  have c_short_list : Cal l.prog w K mg base CX0 6 "short_list" p_short_list (sp_short_list K) := ⟨_, _, ok_short_list F_short_list T c_buckets_of, m_short_list, k_short_list, b_short_list⟩
  have c_churn : Cal l.prog w K mg base CX0 7 "churn" p_churn (sp_churn K) := ⟨_, _, ok_churn F_churn T c_moves, m_churn, k_churn, b_churn⟩
  have c_is_pair : Cal l.prog w K mg base CX0 7 "is_pair" p_is_pair (sp_is_pairX K) := ⟨_, _, ok_is_pair F_is_pair T c_is_allocation c_is_assignment_of, m_is_pair, k_is_pair, b_is_pair⟩
  have c_is_rule : Cal l.prog w K mg base CX0 8 "is_rule" p_is_rule (sp_is_ruleX K) := ⟨_, _, ok_is_rule F_is_rule T c_check_sizes c_is_pair, m_is_rule, k_is_rule, b_is_rule⟩
  have c_check_rule : Cal l.prog w K mg base CX0 9 "check_rule" p_check_rule (sp_check_rule K) := ⟨_, _, ok_check_rule F_check_rule T c_require c_is_rule, m_check_rule, k_check_rule, b_check_rule⟩
  have c_missing : Cal l.prog w K mg base CX0 10 "missing" p_missing (sp_missing K) := ⟨_, _, ok_missing F_missing T c_check_rule c_given_back, m_missing, k_missing, b_missing⟩
  have c_needless_leave : Cal l.prog w K mg base CX0 10 "needless_leave" p_needless_leave (sp_needless_leave K) := ⟨_, _, ok_needless_leave F_needless_leave T c_check_rule c_first_left, m_needless_leave, k_needless_leave, b_needless_leave⟩
  have c_leaves : Cal l.prog w K mg base CX0 10 "leaves" p_leaves (sp_leaves K) := ⟨_, _, ok_leaves F_leaves T c_check_rule c_require c_check_bucket c_is_left c_is_integer, m_leaves, k_leaves, b_leaves⟩
  have c_serves_rule : Cal l.prog w K mg base CX0 10 "serves_rule" p_serves_rule (sp_serves_ruleX K) := ⟨_, _, ok_serves_rule F_serves_rule T c_check_rule c_are_lists c_buckets_of c_fits, m_serves_rule, k_serves_rule, b_serves_rule⟩
  have c_most_waste : Cal l.prog w K mg base CX0 10 "most_waste" p_most_waste (sp_most_waste K) := ⟨_, _, ok_most_waste F_most_waste T c_check_rule c_churn c_transfer, m_most_waste, k_most_waste, b_most_waste⟩
  have c_check_continuing : Cal l.prog w K mg base CX0 10 "check_continuing" p_check_continuing (sp_check_continuing K) := ⟨_, _, ok_check_continuing F_check_continuing T c_check_rule c_require c_is_allocation, m_check_continuing, k_check_continuing, b_check_continuing⟩
  have c_lists_of_rule : Cal l.prog w K mg base CX0 11 "lists_of_rule" p_lists_of_rule (sp_lists_of_rule K) := ⟨_, _, ok_lists_of_rule F_lists_of_rule T c_needless_leave c_short_list, m_lists_of_rule, k_lists_of_rule, b_lists_of_rule⟩
  have c_allowed_variants : Cal l.prog w K mg base CX0 11 "allowed_variants" p_allowed_variants (sp_allowed_variants K) := ⟨_, _, ok_allowed_variants F_allowed_variants T c_check_continuing c_allowed_for_all, m_allowed_variants, k_allowed_variants, b_allowed_variants⟩
  have c_continuation : Cal l.prog w K mg base CX0 11 "continuation" p_continuation (sp_continuation K) := ⟨_, _, ok_continuation F_continuation T c_check_continuing c_first_fit c_first_left c_allowed_for_all, m_continuation, k_continuation, b_continuation⟩
  have c_why_none : Cal l.prog w K mg base CX0 11 "why_none" p_why_none (sp_why_none K) := ⟨_, _, ok_why_none F_why_none T c_check_continuing c_first_left c_first_shortage c_allowed_for_all, m_why_none, k_why_none, b_why_none⟩
  have c_accepts_none : Cal l.prog w K mg base CX0 11 "accepts_none" p_accepts_none (sp_accepts_noneX K) := ⟨_, _, ok_accepts_none F_accepts_none T c_check_continuing c_is_shortage c_is_needless c_allowed_for_all, m_accepts_none, k_accepts_none, b_accepts_none⟩
  have c__law_ask : Cal l.prog w K mg base CX0 12 "_law_ask" p__law_ask (sp__law_ask61 K) := ⟨_, _, ok__law_ask F__law_ask T c_accepts_none c_missing c_needless_leave c_lists_of_rule c_serves_rule c_most_waste c_leaves c_allowed_variants c_continuation c_why_none, m__law_ask, k__law_ask, b__law_ask⟩
  have X_require := ok_requireX F_require T (E_BadValue base)
  have X_check_variants := fn_or (sp' := spRef K xC_BadValue RcV) ((fn_up0 (CX := L2.CX l.prog w) (ok_check_variants F_check_variants T c_require c_is_integer)).mono (k := 5) (by decide)) (ok_check_variantsX F_check_variants T c_is_integer X_require m_require k_require b_require)
  have X_check_sizes := fn_or (sp' := spRef K xC_BadValue RcSz) ((fn_up0 (CX := L2.CX l.prog w) (ok_check_sizes F_check_sizes T c_check_variants c_require c_is_integer)).mono (k := 6) (by decide)) (ok_check_sizesX F_check_sizes T c_is_integer X_check_variants m_check_variants k_check_variants b_check_variants X_require m_require k_require b_require)
  have X_check_bucket := fn_or (sp' := spRef K xC_BadValue RcB) ((fn_up0 (CX := L2.CX l.prog w) (ok_check_bucket F_check_bucket T c_require c_is_integer)).mono (k := 5) (by decide)) (ok_check_bucketX F_check_bucket T c_is_integer X_require m_require k_require b_require)
  have X_is_rule := fn_or (sp' := spRef K xC_BadValue RcIr) ((fn_up0 (CX := L2.CX l.prog w) (ok_is_rule F_is_rule T c_check_sizes c_is_pair)).mono (k := 8) (by decide)) (ok_is_ruleX F_is_rule T c_is_pair X_check_sizes m_check_sizes k_check_sizes b_check_sizes)
  have X_check_rule := fn_or (sp' := spRef K xC_BadValue RcRu) ((fn_up0 (CX := L2.CX l.prog w) (ok_check_rule F_check_rule T c_require c_is_rule)).mono (k := 9) (by decide)) (ok_check_ruleX F_check_rule T X_is_rule m_is_rule k_is_rule b_is_rule X_require m_require k_require b_require)
  have X_missing := fn_or (sp' := spRef K xC_BadValue RcRu) ((fn_up0 (CX := L2.CX l.prog w) (ok_missing F_missing T c_check_rule c_given_back)).mono (k := 10) (by decide)) (ok_missingX F_missing T c_given_back X_check_rule m_check_rule k_check_rule b_check_rule)
  have X_needless_leave := fn_or (sp' := spRef K xC_BadValue RcRu) ((fn_up0 (CX := L2.CX l.prog w) (ok_needless_leave F_needless_leave T c_check_rule c_first_left)).mono (k := 10) (by decide)) (ok_needless_leaveX F_needless_leave T c_first_left X_check_rule m_check_rule k_check_rule b_check_rule)
  have X_leaves := fn_or (sp' := spRef K xC_BadValue RcLe) ((fn_up0 (CX := L2.CX l.prog w) (ok_leaves F_leaves T c_check_rule c_require c_check_bucket c_is_left c_is_integer)).mono (k := 10) (by decide)) (ok_leavesX F_leaves T c_is_left c_is_integer X_check_rule m_check_rule k_check_rule b_check_rule X_require m_require k_require b_require X_check_bucket m_check_bucket k_check_bucket b_check_bucket)
  have X_lists_of_rule := fn_or (sp' := spRef K xC_BadValue RcRu) ((fn_up0 (CX := L2.CX l.prog w) (ok_lists_of_rule F_lists_of_rule T c_needless_leave c_short_list)).mono (k := 11) (by decide)) (ok_lists_of_ruleX F_lists_of_rule T c_short_list X_needless_leave m_needless_leave k_needless_leave b_needless_leave)
  have X_serves_rule := fn_or (sp' := spRef K xC_BadValue RcS4) ((fn_up0 (CX := L2.CX l.prog w) (ok_serves_rule F_serves_rule T c_check_rule c_are_lists c_buckets_of c_fits)).mono (k := 10) (by decide)) (ok_serves_ruleX F_serves_rule T c_are_lists c_buckets_of c_fits X_check_rule m_check_rule k_check_rule b_check_rule)
  have X_most_waste := fn_or (sp' := spRef K xC_BadValue RcRu) ((fn_up0 (CX := L2.CX l.prog w) (ok_most_waste F_most_waste T c_check_rule c_churn c_transfer)).mono (k := 10) (by decide)) (ok_most_wasteX F_most_waste T c_churn c_transfer X_check_rule m_check_rule k_check_rule b_check_rule)
  have X_check_continuing := fn_or (sp' := spRef K xC_BadValue RcCo) ((fn_up0 (CX := L2.CX l.prog w) (ok_check_continuing F_check_continuing T c_check_rule c_require c_is_allocation)).mono (k := 10) (by decide)) (ok_check_continuingX F_check_continuing T c_is_allocation X_check_rule m_check_rule k_check_rule b_check_rule X_require m_require k_require b_require)
  have X_allowed_variants := fn_or (sp' := spRef K xC_BadValue RcCo) ((fn_up0 (CX := L2.CX l.prog w) (ok_allowed_variants F_allowed_variants T c_check_continuing c_allowed_for_all)).mono (k := 11) (by decide)) (ok_allowed_variantsX F_allowed_variants T c_allowed_for_all X_check_continuing m_check_continuing k_check_continuing b_check_continuing)
  have X_continuation := fn_or (sp' := spRef K xC_BadValue RcCo) ((fn_up0 (CX := L2.CX l.prog w) (ok_continuation F_continuation T c_check_continuing c_first_fit c_first_left c_allowed_for_all)).mono (k := 11) (by decide)) (ok_continuationX F_continuation T c_first_fit c_first_left c_allowed_for_all X_check_continuing m_check_continuing k_check_continuing b_check_continuing)
  have X_why_none := fn_or (sp' := spRef K xC_BadValue RcCo) ((fn_up0 (CX := L2.CX l.prog w) (ok_why_none F_why_none T c_check_continuing c_first_left c_first_shortage c_allowed_for_all)).mono (k := 11) (by decide)) (ok_why_noneX F_why_none T c_first_left c_first_shortage c_allowed_for_all X_check_continuing m_check_continuing k_check_continuing b_check_continuing)
  have X_accepts_none := fn_or (sp' := spRef K xC_BadValue RcC5) ((fn_up0 (CX := L2.CX l.prog w) (ok_accepts_none F_accepts_none T c_check_continuing c_is_shortage c_is_needless c_allowed_for_all)).mono (k := 11) (by decide)) (ok_accepts_noneX F_accepts_none T c_is_shortage c_is_needless c_allowed_for_all X_check_continuing m_check_continuing k_check_continuing b_check_continuing)
  have X__law_ask := fn_or (sp' := spRef K xC_BadValue RcAsk) ((fn_up0 (CX := L2.CX l.prog w) (ok__law_ask F__law_ask T c_accepts_none c_missing c_needless_leave c_lists_of_rule c_serves_rule c_most_waste c_leaves c_allowed_variants c_continuation c_why_none)).mono (k := 12) (by decide)) (ok__law_askX F__law_ask T X_missing m_missing k_missing b_missing X_needless_leave m_needless_leave k_needless_leave b_needless_leave X_lists_of_rule m_lists_of_rule k_lists_of_rule b_lists_of_rule X_serves_rule m_serves_rule k_serves_rule b_serves_rule X_most_waste m_most_waste k_most_waste b_most_waste X_leaves m_leaves k_leaves b_leaves X_allowed_variants m_allowed_variants k_allowed_variants b_allowed_variants X_continuation m_continuation k_continuation b_continuation X_why_none m_why_none k_why_none b_why_none X_accepts_none m_accepts_none k_accepts_none b_accepts_none)
  have c__law_told : Cal l.prog w K mg base CX0 13 "_law_told" p__law_told (sp__law_told61 K) := ⟨_, _, (fn_down0 (fun vs H Q E h => h) (ok__law_toldX F__law_told T (E_BadValue base) H_BadValue X__law_ask m__law_ask k__law_ask b__law_ask)).mono (by decide), m__law_told, k__law_told, b__law_told⟩
  have c__law_named : Cal l.prog w K mg base CX0 14 "_law_named" p__law_named (sp__law_named61 K) := ⟨_, _, ok__law_named F__law_named T c__law_told c__law_next, m__law_named, k__law_named, b__law_named⟩
  exact ok_law F_law T c__law_stream c__law_next c__law_named
theorem walk {l : PySem.W.OpenLaw} {q : Program} {loose : List Str} {XP : (Str → Option Value) → Heap → Prop} {YP : World → Heap → Prop} {d : DefRec} {K : Params → PySem.W.Frag} (hn : l.most = some 63) (hdf : d.params.defaults = [])
    (hY : ∀ (w : World) (h : Heap), YP w h → (K w.params).In h)
    (F : ∀ (w : World) (mg : Str → Option Value) (fa : Addr) (h : Heap), (K w.params).In h → h.Ns mainGlobals mg → mg d.name = some (.ref fa) →
      ∃ fd : FuncData, (∀ (s : Shared) (u : Value), BindsTo s fd ⟨[u], []⟩ [("script", u)]) ∧ ∀ base : Heap, (K w.params).In base → base.Ns mainGlobals mg → FnOk l.prog w (K w.params) mg base CX0 15 fa fd ["script"] (spLaw (K w.params))) :
    PySem.W.WalkO q loose XP YP l.row.toRowW d [] (fun f vs => PySem.call f vs) :=
  L2.walk_of (n := 63) (k := 15) (x := "script") (CX := fun _ => CX0) (sp := fun w => spLaw (K w.params)) hn (by decide) hdf ⟨rfl, by decide, by decide⟩ hY F (fun _ _ a ns hl _ hS => ⟨a, ns, rfl, hS, hl, fun _ => rfl⟩) fun _ _ _ _ _ z => z
end W
open PySem PySem.W PyProof.Rows
set_option maxRecDepth 100000 in
set_option maxHeartbeats 0 in
theorem PySem.Challenge.cw_leastmoved_k61_refusals_of_rules_holds : PySem.Challenge.rw_leastmoved_k61_refusals_of_rules.Holds := by
  w_on; o_law; k_head; (case hw => w_witness2)
  k_fill
  refine W.walk (l := PySem.Challenge.rw_leastmoved_k61_refusals_of_rules) rfl rfl (fun w h Y => PySem.W.kIn_of Y) ?F
  case F =>
    intro w mg fa h KX G hmg
    refine' W.all_mk KX G hmg ?a_is_integer ?l_is_integer ?o_is_integer ?k_is_integer ?a_are_integers ?l_are_integers ?o_are_integers ?k_are_integers ?a_require ?l_require ?o_require ?k_require ?a_check_variants ?l_check_variants ?o_check_variants ?k_check_variants ?a_check_sizes ?l_check_sizes ?o_check_sizes ?k_check_sizes ?a_is_allocation ?l_is_allocation ?o_is_allocation ?k_is_allocation ?a_is_bounded_allocation ?l_is_bounded_allocation ?o_is_bounded_allocation ?k_is_bounded_allocation ?a_check_allocation ?l_check_allocation ?o_check_allocation ?k_check_allocation ?a_check_alike ?l_check_alike ?o_check_alike ?k_check_alike ?a_transfer ?l_transfer ?o_transfer ?k_transfer ?a_is_assignment ?l_is_assignment ?o_is_assignment ?k_is_assignment ?a_is_bounded_assignment ?l_is_bounded_assignment ?o_is_bounded_assignment ?k_is_bounded_assignment ?a_check_assignment ?l_check_assignment ?o_check_assignment ?k_check_assignment ?a_check_pair ?l_check_pair ?o_check_pair ?k_check_pair ?a_check_enough ?l_check_enough ?o_check_enough ?k_check_enough ?a_allocation_of ?l_allocation_of ?o_allocation_of ?k_allocation_of ?a_is_assignment_of ?l_is_assignment_of ?o_is_assignment_of ?k_is_assignment_of ?a_churn ?l_churn ?o_churn ?k_churn ?a_moves ?l_moves ?o_moves ?k_moves ?a_buckets_of ?l_buckets_of ?o_buckets_of ?k_buckets_of ?a_check_bucket ?l_check_bucket ?o_check_bucket ?k_check_bucket ?a_are_lists ?l_are_lists ?o_are_lists ?k_are_lists ?a_short_list ?l_short_list ?o_short_list ?k_short_list ?a_fits ?l_fits ?o_fits ?k_fits ?a_check_rule ?l_check_rule ?o_check_rule ?k_check_rule ?a_is_pair ?l_is_pair ?o_is_pair ?k_is_pair ?a_is_rule ?l_is_rule ?o_is_rule ?k_is_rule ?a_given_back ?l_given_back ?o_given_back ?k_given_back ?a_missing ?l_missing ?o_missing ?k_missing ?a_is_left ?l_is_left ?o_is_left ?k_is_left ?a_first_left ?l_first_left ?o_first_left ?k_first_left ?a_needless_leave ?l_needless_leave ?o_needless_leave ?k_needless_leave ?a_leaves ?l_leaves ?o_leaves ?k_leaves ?a_lists_of_rule ?l_lists_of_rule ?o_lists_of_rule ?k_lists_of_rule ?a_serves_rule ?l_serves_rule ?o_serves_rule ?k_serves_rule ?a_most_waste ?l_most_waste ?o_most_waste ?k_most_waste ?a_variant_sets ?l_variant_sets ?o_variant_sets ?k_variant_sets ?a_is_inside ?l_is_inside ?o_is_inside ?k_is_inside ?a_room ?l_room ?o_room ?k_room ?a_confined ?l_confined ?o_confined ?k_confined ?a_first_shortage ?l_first_shortage ?o_first_shortage ?k_first_shortage ?a_are_ascending ?l_are_ascending ?o_are_ascending ?k_are_ascending ?a_is_shortage ?l_is_shortage ?o_is_shortage ?k_is_shortage ?a_spare_after ?l_spare_after ?o_spare_after ?k_spare_after ?a_first_fit ?l_first_fit ?o_first_fit ?k_first_fit ?a_check_continuing ?l_check_continuing ?o_check_continuing ?k_check_continuing ?a_is_allowed ?l_is_allowed ?o_is_allowed ?k_is_allowed ?a_allowed_for_all ?l_allowed_for_all ?o_allowed_for_all ?k_allowed_for_all ?a_allowed_variants ?l_allowed_variants ?o_allowed_variants ?k_allowed_variants ?a_continuation ?l_continuation ?o_continuation ?k_continuation ?a_why_none ?l_why_none ?o_why_none ?k_why_none ?a_is_needless ?l_is_needless ?o_is_needless ?k_is_needless ?a_accepts_none ?l_accepts_none ?o_accepts_none ?k_accepts_none ?a__law_stream ?l__law_stream ?o__law_stream ?k__law_stream ?a__law_next ?l__law_next ?o__law_next ?k__law_next ?a__law_ask ?l__law_ask ?o__law_ask ?k__law_ask ?a__law_told ?l__law_told ?o__law_told ?k__law_told ?a__law_named ?l__law_named ?o__law_named ?k__law_named ?a_law ?l_law ?o_law ?k_law ?z_ValueError ?z_abs ?z_all ?z_bool ?z_enumerate ?z_int ?z_isinstance ?z_len ?z_list ?z_max ?z_min ?z_range ?z_set ?z_sorted ?z_sum ?z_tuple ?z_zip ?g_MOST_VARIANTS ?g_MOST_BUCKETS ?g_MOST_PAIRS ?g_CONTROL ?i_combinations ?xa_BadValue ?xi_BadValue ?xl_BadValue ?xo_BadValue ?xd_BadValue ?xv_BadValue ?xf_BadValue ?xc_BadValue ?xk_BadValue ?xr_BadValue ?xs_BadValue ?xb_BadValue ?xt_BadValue ?xp_BadValue ?xw_BadValue ?xz_BadValue ?xu_BadValue ?xy_BadValue ?xg_BadValue ?xh_BadValue ?xD_BadValue ?xn_BadValue ?xe_BadValue ?xx_BadValue ?xj_BadValue ?xm_BadValue ?yA_L ?yN_L ?yT_L ?yM_L ?yL_L ?yB_L ?yD_L ?yY_L ?yS_L
    (case a_is_integer => k_is); (case l_is_integer => k_is); (case o_is_integer => k_is); (case k_is_integer => k_is)
    (case a_are_integers => k_is); (case l_are_integers => k_is); (case o_are_integers => k_is); (case k_are_integers => k_is)
    (case a_require => k_is); (case l_require => k_is); (case o_require => k_is); (case k_require => k_is)
    (case a_check_variants => k_is); (case l_check_variants => k_is); (case o_check_variants => k_is); (case k_check_variants => k_is)
    (case a_check_sizes => k_is); (case l_check_sizes => k_is); (case o_check_sizes => k_is); (case k_check_sizes => k_is)
    (case a_is_allocation => k_is); (case l_is_allocation => k_is); (case o_is_allocation => k_is); (case k_is_allocation => k_is)
    (case a_is_bounded_allocation => k_is); (case l_is_bounded_allocation => k_is); (case o_is_bounded_allocation => k_is); (case k_is_bounded_allocation => k_is)
    (case a_check_allocation => k_is); (case l_check_allocation => k_is); (case o_check_allocation => k_is); (case k_check_allocation => k_is)
    (case a_check_alike => k_is); (case l_check_alike => k_is); (case o_check_alike => k_is); (case k_check_alike => k_is)
    (case a_transfer => k_is); (case l_transfer => k_is); (case o_transfer => k_is); (case k_transfer => k_is)
    (case a_is_assignment => k_is); (case l_is_assignment => k_is); (case o_is_assignment => k_is); (case k_is_assignment => k_is)
    (case a_is_bounded_assignment => k_is); (case l_is_bounded_assignment => k_is); (case o_is_bounded_assignment => k_is); (case k_is_bounded_assignment => k_is)
    (case a_check_assignment => k_is); (case l_check_assignment => k_is); (case o_check_assignment => k_is); (case k_check_assignment => k_is)
    (case a_check_pair => k_is); (case l_check_pair => k_is); (case o_check_pair => k_is); (case k_check_pair => k_is)
    (case a_check_enough => k_is); (case l_check_enough => k_is); (case o_check_enough => k_is); (case k_check_enough => k_is)
    (case a_allocation_of => k_is); (case l_allocation_of => k_is); (case o_allocation_of => k_is); (case k_allocation_of => k_is)
    (case a_is_assignment_of => k_is); (case l_is_assignment_of => k_is); (case o_is_assignment_of => k_is); (case k_is_assignment_of => k_is)
    (case a_churn => k_is); (case l_churn => k_is); (case o_churn => k_is); (case k_churn => k_is)
    (case a_moves => k_is); (case l_moves => k_is); (case o_moves => k_is); (case k_moves => k_is)
    (case a_buckets_of => k_is); (case l_buckets_of => k_is); (case o_buckets_of => k_is); (case k_buckets_of => k_is)
    (case a_check_bucket => k_is); (case l_check_bucket => k_is); (case o_check_bucket => k_is); (case k_check_bucket => k_is)
    (case a_are_lists => k_is); (case l_are_lists => k_is); (case o_are_lists => k_is); (case k_are_lists => k_is)
    (case a_short_list => k_is); (case l_short_list => k_is); (case o_short_list => k_is); (case k_short_list => k_is)
    (case a_fits => k_is); (case l_fits => k_is); (case o_fits => k_is); (case k_fits => k_is)
    (case a_check_rule => k_is); (case l_check_rule => k_is); (case o_check_rule => k_is); (case k_check_rule => k_is)
    (case a_is_pair => k_is); (case l_is_pair => k_is); (case o_is_pair => k_is); (case k_is_pair => k_is)
    (case a_is_rule => k_is); (case l_is_rule => k_is); (case o_is_rule => k_is); (case k_is_rule => k_is)
    (case a_given_back => k_is); (case l_given_back => k_is); (case o_given_back => k_is); (case k_given_back => k_is)
    (case a_missing => k_is); (case l_missing => k_is); (case o_missing => k_is); (case k_missing => k_is)
    (case a_is_left => k_is); (case l_is_left => k_is); (case o_is_left => k_is); (case k_is_left => k_is)
    (case a_first_left => k_is); (case l_first_left => k_is); (case o_first_left => k_is); (case k_first_left => k_is)
    (case a_needless_leave => k_is); (case l_needless_leave => k_is); (case o_needless_leave => k_is); (case k_needless_leave => k_is)
    (case a_leaves => k_is); (case l_leaves => k_is); (case o_leaves => k_is); (case k_leaves => k_is)
    (case a_lists_of_rule => k_is); (case l_lists_of_rule => k_is); (case o_lists_of_rule => k_is); (case k_lists_of_rule => k_is)
    (case a_serves_rule => k_is); (case l_serves_rule => k_is); (case o_serves_rule => k_is); (case k_serves_rule => k_is)
    (case a_most_waste => k_is); (case l_most_waste => k_is); (case o_most_waste => k_is); (case k_most_waste => k_is)
    (case a_variant_sets => k_is); (case l_variant_sets => k_is); (case o_variant_sets => k_is); (case k_variant_sets => k_is)
    (case a_is_inside => k_is); (case l_is_inside => k_is); (case o_is_inside => k_is); (case k_is_inside => k_is)
    (case a_room => k_is); (case l_room => k_is); (case o_room => k_is); (case k_room => k_is)
    (case a_confined => k_is); (case l_confined => k_is); (case o_confined => k_is); (case k_confined => k_is)
    (case a_first_shortage => k_is); (case l_first_shortage => k_is); (case o_first_shortage => k_is); (case k_first_shortage => k_is)
    (case a_are_ascending => k_is); (case l_are_ascending => k_is); (case o_are_ascending => k_is); (case k_are_ascending => k_is)
    (case a_is_shortage => k_is); (case l_is_shortage => k_is); (case o_is_shortage => k_is); (case k_is_shortage => k_is)
    (case a_spare_after => k_is); (case l_spare_after => k_is); (case o_spare_after => k_is); (case k_spare_after => k_is)
    (case a_first_fit => k_is); (case l_first_fit => k_is); (case o_first_fit => k_is); (case k_first_fit => k_is)
    (case a_check_continuing => k_is); (case l_check_continuing => k_is); (case o_check_continuing => k_is); (case k_check_continuing => k_is)
    (case a_is_allowed => k_is); (case l_is_allowed => k_is); (case o_is_allowed => k_is); (case k_is_allowed => k_is)
    (case a_allowed_for_all => k_is); (case l_allowed_for_all => k_is); (case o_allowed_for_all => k_is); (case k_allowed_for_all => k_is)
    (case a_allowed_variants => k_is); (case l_allowed_variants => k_is); (case o_allowed_variants => k_is); (case k_allowed_variants => k_is)
    (case a_continuation => k_is); (case l_continuation => k_is); (case o_continuation => k_is); (case k_continuation => k_is)
    (case a_why_none => k_is); (case l_why_none => k_is); (case o_why_none => k_is); (case k_why_none => k_is)
    (case a_is_needless => k_is); (case l_is_needless => k_is); (case o_is_needless => k_is); (case k_is_needless => k_is)
    (case a_accepts_none => k_is); (case l_accepts_none => k_is); (case o_accepts_none => k_is); (case k_accepts_none => k_is)
    (case a__law_stream => k_is); (case l__law_stream => k_is); (case o__law_stream => k_is); (case k__law_stream => k_is)
    (case a__law_next => k_is); (case l__law_next => k_is); (case o__law_next => k_is); (case k__law_next => k_is)
    (case a__law_ask => k_is); (case l__law_ask => k_is); (case o__law_ask => k_is); (case k__law_ask => k_is)
    (case a__law_told => k_is); (case l__law_told => k_is); (case o__law_told => k_is); (case k__law_told => k_is)
    (case a__law_named => k_is); (case l__law_named => k_is); (case o__law_named => k_is); (case k__law_named => k_is)
    (case a_law => k_is); (case l_law => k_is); (case o_law => k_is); (case k_law => k_is)
    (case z_ValueError => k_is)
    (case z_abs => k_is)
    (case z_all => k_is)
    (case z_bool => k_is)
    (case z_enumerate => k_is)
    (case z_int => k_is)
    (case z_isinstance => k_is)
    (case z_len => k_is)
    (case z_list => k_is)
    (case z_max => k_is)
    (case z_min => k_is)
    (case z_range => k_is)
    (case z_set => k_is)
    (case z_sorted => k_is)
    (case z_sum => k_is)
    (case z_tuple => k_is)
    (case z_zip => k_is)
    (case g_MOST_VARIANTS => k_is)
    (case g_MOST_BUCKETS => k_is)
    (case g_MOST_PAIRS => k_is)
    (case g_CONTROL => k_is)
    (case i_combinations => k_is)
    (case xa_BadValue => k_is)
    (case xi_BadValue => k_is)
    (case xl_BadValue => k_is)
    (case xo_BadValue => k_is)
    (case xd_BadValue => k_is)
    (case xv_BadValue => exact rfl)
    (case xf_BadValue => first | rfl | decide +kernel)
    (case xc_BadValue => k_is)
    (case xk_BadValue => k_is)
    (case xr_BadValue => first | rfl | decide +kernel)
    (case xs_BadValue => k_is)
    (case xb_BadValue => k_is)
    (case xt_BadValue => k_is)
    (case xp_BadValue => k_is)
    (case xw_BadValue => k_is)
    (case xz_BadValue => k_is)
    (case xu_BadValue => ks_is)
    (case xy_BadValue => k_is)
    (case xg_BadValue => k_is)
    (case xh_BadValue => k_is)
    (case xD_BadValue => k_is)
    (case xn_BadValue => k_is)
    (case xe_BadValue => k_is)
    (case xx_BadValue => k_is)
    (case xj_BadValue => k_is)
    (case xm_BadValue => first | rfl | decide +kernel)
    (case yA_L => k_is)
    (case yN_L => k_is)
    (case yT_L => k_is)
    (case yM_L => k_is)
    (case yL_L => k_is)
    (case yB_L => k_is)
    (case yD_L => k_is)
    (case yY_L => k_is)
    (case yS_L => k_is)
